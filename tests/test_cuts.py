"""Points 1, 20, 21: cuts, the houses and regions in them, a house cut, two uncut."""

import itertools
import unittest
from fractions import Fraction

from parcels import FOUR, MOST, SIDES, chain, depth, even, houses_in, is_at, region_by_path, replaced, some_cuts
from shapes import as_pair
from things import ANYTHING, SIXTY, Calls, chance, otherwise, same
from wherewhen.cuts.cuts import MOST_HOUSES, WHOLE, cut_at, house_at, houses_of, is_cuts, region_of, uncut
from wherewhen.cuts.regions import is_region
from wherewhen.errors import NoCut, NoCuts, NoHouse, NoPlace, TooMany

GOOD = [0, 99, FOUR, chain(7), even(4), (0, 0, 1, 2), (1, MOST, 1, 2), (0, -MOST, 1, 2), (0, 0, (0, -MOST, 1, 2), 3),
        (1, 5, (1, 4, 0, 1), (1, 6, 2, 3)), (0, 0, (1, 0, 1, 2), (1, 0, 3, 4))]
BAD = [None, -1, 100, True, False, (), [], {}, "0", (0,), (0, 0, 1), (0, 0, 1, 2, 3), [0, 0, 1, 2], (0, 0, [1], 2),
       (2, 0, 1, 2), (-1, 0, 1, 2), (True, 0, 1, 2), (False, 0, 1, 2), ("x", 0, 1, 2), (0, MOST + 1, 1, 2),
       (0, -MOST - 1, 1, 2), (0, True, 1, 2), (0, None, 1, 2), (0, (0, 1), 1, 2), (0, 0, 1, 1), (0, 0, 0, 100),
       (0, 0, -1, 0), (0, 0, True, 0), (0, 0, 1, None), (0, 0, 1, (1, 0, 2, 1)), (0, 0, (1, 0, 2, 3), (1, 1, 3, 4)),
       # One side has no places.
       (0, 0, (0, 0, 1, 2), 3), (0, 0, (0, 5, 1, 2), 3), (0, 0, 3, (0, 0, 1, 2)), (0, 0, 3, (0, -1, 1, 2)),
       (0, 0, 3, (1, 0, (0, -1, 1, 2), 4)), (0, 3, (0, 1, 0, (0, 3, 1, 2)), 4), (0, 3, (0, 1, 0, (0, 1, 1, 2)), 4),
       chain(8), even(5), (1, 0, chain(7), 9)]
NO_HOUSES = [None, -1, 100, 1, True, False, "7", (7,), [7], {}, (), SIXTY, 98]
NO_AXES = [2, -1, True, False, None, "x", "0", (0,), [], {}, SIXTY]
NO_AT = [MOST + 1, -MOST - 1, True, False, None, "0", (0, 1), [0], {}, SIXTY]


class IsCutsTest(Calls, unittest.TestCase):

    def test_numbers(self):
        self.assertEqual((WHOLE, MOST_HOUSES), (0, 16))

    def test_is_cuts(self):
        for thing in GOOD:
            self.assertIs(self.truth(is_cuts, thing), True, thing)
        for thing in BAD:
            self.assertIs(self.truth(is_cuts, thing), False, thing)
            self.refused(NoCuts, houses_of, thing)

    def test_how_many_and_how_deep(self):
        self.assertEqual(len(houses_in(even(4))), 16)
        self.assertIs(is_cuts(even(4)), True)
        seventeen = replaced(even(4), 15, (1, 0, 15, 16))
        self.assertEqual((len(houses_in(seventeen)), depth(seventeen)), (17, 5))
        self.assertIs(self.truth(is_cuts, seventeen), False)
        self.assertEqual([depth(chain(many)) for many in (1, 2, 7, 8)], [0, 1, 6, 7])
        self.assertIs(self.truth(is_cuts, chain(7)), True)
        self.assertIs(self.truth(is_cuts, chain(8)), False)
        self.assertIs(self.truth(is_cuts, chain(40)), False)

    def test_of_anything(self):
        for thing in ANYTHING:
            wanted = type(thing) is int and 0 <= thing <= 99 or same(thing, (0, 1, 2, 3))
            self.assertIs(self.truth(is_cuts, thing), wanted, thing)
        for cuts in (FOUR, chain(7), (1, 3, (0, -2, 9, 8), 4)):
            for thing in otherwise(cuts):
                if self.truth(is_cuts, thing):
                    self.look_at(thing)

    def look_at(self, cuts):
        houses = houses_of(cuts)
        self.assertTrue(all(type(house) is int and 0 <= house <= 99 for house in houses))
        self.assertEqual(list(houses), sorted({*houses_in(cuts)}))
        self.assertEqual(len(houses), len(houses_in(cuts)))
        self.assertTrue(len(houses) <= 16 and depth(cuts) <= 6)
        for house in houses:
            region = region_of(cuts, house)
            self.assertIs(is_region(region), True)
            self.assertEqual(region, region_by_path(cuts, house))


class RegionOfTest(Calls, unittest.TestCase):

    def test_houses_of(self):
        self.assertEqual(self.told(houses_of, FOUR), (3, 7, 12, 99))
        self.assertEqual(self.told(houses_of, 42), (42,))
        self.assertEqual(self.told(houses_of, even(4)), tuple(range(16)))

    def test_region_of(self):
        for house, region in SIDES.items():
            self.assertEqual(self.told(region_of, FOUR, house), region)
        self.assertEqual(self.told(region_of, 42, 42), (None, None, None, None))
        self.assertEqual([region_of(chain(4), house) for house in range(4)],
                         [(None, None, 0, None), (0, None, 1, None), (1, None, 2, None), (2, None, None, None)])

    def test_house_at(self):
        wanted = [((0, 0), 99), ((-1, 0), 3), ((-1, -1), 7), ((0, 9), 99), ((0, 10), 12), ((5, 10), 12), ((MOST, MOST), 12),
                  ((Fraction(-1, 10 ** 50), 0), 3), ((0, Fraction(10 ** 51 - 1, 10 ** 50)), 99),
                  ((Fraction(-1, 3), Fraction(-1, 10 ** 50)), 7), ((10 ** 80, -10 ** 80), 99), ((-10 ** 80, 10 ** 80), 3)]
        for (x, y), house in wanted:
            self.assertEqual(self.told(house_at, FOUR, (as_pair(x), as_pair(y))), house)
        self.assertEqual(self.told(house_at, 42, ((0, 1), (0, 1))), 42)

    def test_each_place_in_one_region(self):
        chances = chance(110)
        for _ in range(60):
            cuts = some_cuts(chances, chances.randint(1, 16))
            self.assertIs(is_cuts(cuts), True)
            regions = {house: self.told(region_of, cuts, house) for house in houses_of(cuts)}
            for house, region in regions.items():
                self.assertEqual(region, region_by_path(cuts, house))
            for x, y in itertools.product([Fraction(k, 2) for k in range(-15, 16, 3)], range(-7, 8, 2)):
                inside = [house for house in regions if is_at(regions[house], (x, y))]
                self.assertEqual(inside, [house_at(cuts, (as_pair(x), as_pair(y)))])

    def test_refused(self):
        for thing in NO_HOUSES:
            self.assertIs(self.refused(NoHouse, region_of, FOUR, thing).house, thing)
        self.assertEqual(self.refused(NoHouse, region_of, 1, 0).house, 0)
        for thing in [None, (0, 0), ((0, 1),), ((0, 1), (2, 2)), [(0, 1), (0, 1)], ((0, 1), (True, 1)), "0", {}]:
            self.refused(NoPlace, house_at, FOUR, thing)
        for thing in BAD:
            self.refused(NoCuts, region_of, thing, None)
            self.refused(NoCuts, house_at, thing, None)
            self.refused(NoCuts, cut_at, thing, None, None, None)
            self.refused(NoCuts, uncut, thing, None)


class CutTest(Calls, unittest.TestCase):

    def test_cut_at(self):
        self.assertEqual(self.told(cut_at, 0, 0, 0, 5), ((0, 5, 0, 1), 1))
        self.assertEqual(self.told(cut_at, 5, 5, 1, -5), ((1, -5, 5, 0), 0))
        self.assertEqual(self.told(cut_at, FOUR, 99, 1, 9), ((0, 0, (1, 0, 7, 3), (1, 10, (1, 9, 99, 0), 12)), 0))
        self.assertEqual(self.told(cut_at, (0, 0, 1, 0), 1, 0, -3), ((0, 0, (0, -3, 1, 2), 0), 2))
        self.assertEqual(self.told(cut_at, (0, 0, 0, 2), 2, 1, MOST), ((0, 0, 0, (1, MOST, 2, 1)), 1))

    def test_cut_at_each_number(self):
        cuts = (0, 0, 0, (0, 3, 1, 2))
        wanted = {0: [-2, -1], 1: [1, 2], 2: [4, 5]}
        for house, numbers in wanted.items():
            for at in range(-2, 6):
                if at in numbers:
                    told, new = self.told(cut_at, cuts, house, 0, at)
                    self.assertEqual((new, is_cuts(told)), (3, True))
                    self.assertEqual(region_of(told, house)[2], at)
                    self.assertEqual(region_of(told, 3)[0], at)
                else:
                    self.refused(NoCut, cut_at, cuts, house, 0, at)
                self.assertIs(is_cuts(cut_at(cuts, house, 1, at)[0]), True)

    def test_refused(self):
        for thing in NO_HOUSES:
            self.assertIs(self.refused(NoHouse, cut_at, FOUR, thing, 0, 5).house, thing)
            self.assertIs(self.refused(NoHouse, cut_at, FOUR, thing, None, None).house, thing)
        for thing in NO_AXES:
            self.refused(NoCut, cut_at, FOUR, 3, thing, 5)
        for thing in NO_AT:
            for axis in (0, 1):
                self.refused(NoCut, cut_at, FOUR, 3, axis, thing)
        for house, axis, at in [(99, 0, 0), (99, 0, -1), (99, 1, 10), (99, 1, 11), (7, 0, 0), (7, 1, 0), (3, 1, 0), (3, 1, -1)]:
            self.refused(NoCut, cut_at, FOUR, house, axis, at)

    def test_too_many(self):
        self.refused(TooMany, cut_at, even(4), 15, 1, 0)
        self.refused(NoCut, cut_at, even(4), 15, 0, 56)
        self.refused(NoHouse, cut_at, even(4), 16, 1, 0)
        self.refused(TooMany, cut_at, chain(7), 6, 1, 0)
        self.refused(TooMany, cut_at, chain(7), 5, 1, 0)
        self.refused(NoCut, cut_at, chain(7), 6, 0, 5)
        self.assertEqual(cut_at(chain(7), 4, 1, 0)[1], 7)
        self.assertEqual(depth(cut_at(chain(6), 5, 1, 0)[0]), 6)

    def test_uncut(self):
        self.assertEqual(self.told(uncut, (0, 5, 0, 1), 0), (0, 1))
        self.assertEqual(self.told(uncut, (0, 5, 0, 1), 1), (0, 1))
        self.assertEqual(self.told(uncut, (0, 5, 9, 1), 1), (9, 1))
        self.assertEqual(self.told(uncut, FOUR, 12), ((0, 0, (1, 0, 7, 3), 99), 12))
        self.assertEqual(self.told(uncut, FOUR, 7), ((0, 0, 7, (1, 10, 99, 12)), 3))
        self.assertEqual(self.told(uncut, chain(7), 5), (chain(6), 6))

    def test_no_uncut(self):
        for thing in NO_HOUSES:
            self.assertIs(self.refused(NoHouse, uncut, FOUR, thing).house, thing)
        self.refused(NoCut, uncut, 0, 0)
        for house in range(5):
            self.refused(NoCut, uncut, chain(7), house)
        self.refused(NoCut, uncut, (0, 0, 5, (0, 3, 1, 2)), 5)
        self.refused(NoCut, uncut, (0, 3, (0, 0, 1, 2), 5), 5)

    def test_cut_and_uncut_by_chance(self):
        chances = chance(111)
        for _ in range(200):
            cuts = some_cuts(chances, chances.randint(1, 12))
            house, axis, at = chances.choice(houses_of(cuts)), chances.randint(0, 1), chances.randint(-8, 8)
            least, _, beyond, _ = region_of(cuts, house) if axis == 0 else region_of(cuts, house)[1:] + (None,)
            if least is not None and at <= least or beyond is not None and beyond <= at:
                self.refused(NoCut, cut_at, cuts, house, axis, at)
                continue
            if depth(replaced(cuts, house, (axis, at, house, 0))) > 6:
                self.refused(TooMany, cut_at, cuts, house, axis, at)
                continue
            told, new = self.told(cut_at, cuts, house, axis, at)
            self.assertEqual(new, min({*range(100)} - {*houses_in(cuts)}))
            self.assertEqual(told, replaced(cuts, house, (axis, at, house, new)))
            for one in (house, new):
                self.assertEqual(self.told(uncut, told, one), (cuts, new))


if __name__ == "__main__":
    unittest.main()
