"""Points 1, 20, 21: regions, the sides of them, gaps to them, and what comes into them."""

import itertools
import unittest
from fractions import Fraction

from books import END
from parcels import MOST, all_moments, gap_to, meets
from shapes import NO_RINGS, OCTAGON, SQUARE, as_number, as_pair, some_ring, standing
from test_lines import NO_SPELLS, WAYS, of
from test_papers import some_stretch
from test_rows import NO_ROWS, NOWHERE
from things import ANYTHING, SIXTY, Calls, chance, otherwise, same
from wherewhen.cuts.regions import comes_in, is_region, region_gap, side_of, tile_side
from wherewhen.errors import NoRegion, NoRing, NoRow, NoSpell, NoTile
from wherewhen.moving.rows import box_lines
from wherewhen.numbers.spells import has, is_spell

ROOM = (0, 0, 10, 10)
EVERYWHERE = (None, None, None, None)
GOOD = [ROOM, EVERYWHERE, (0, None, 1, None), (None, 0, None, 1), (-MOST, -MOST, MOST, MOST), (None, None, -5, None),
        (3, None, None, None), (MOST - 1, 0, MOST, 1), (None, MOST, None, None)]
BAD = [None, 0, True, (), [], {}, "0000", (0, 0, 10), (0, 0, 10, 10, 10), [0, 0, 10, 10], (0, 0, 0, 10), (0, 0, 10, 0),
       (5, 0, 3, 10), (0, 5, 10, 3), (0, 0, MOST + 1, 10), (-MOST - 1, 0, 0, 10), (0, -MOST - 1, 10, 0), (0, 0, 10, MOST + 1),
       (False, 0, 10, 10), (0, 0, True, 10), (0, 0, 10, "10"), ((0, 1), 0, 10, 10), (0, None, 0, None), (None, 1, None, 1),
       (None, 1, None, 0), ((), (), (), ()), (None, None, None, False)]
NO_TILES = [(-1, 0, 0), (31, 0, 0), (0, MOST + 1, 0), (0, 0, -MOST - 1), (True, 0, 0), (0, True, 0), (0, 0, False), (None, 0, 0),
            (0, None, 0), (0, 0, None), ("0", 0, 0), (0, (0, 1), 0), (0, 0, [0]), ({}, {}, {}), (SIXTY, 0, 0), (0, SIXTY, 0)]


def dot(x, y):
    return ((x, y),)


def first_side(region, corners):
    """The first side a box is on, by its numbers."""
    across, upward = [x for x, _ in corners], [y for _, y in corners]
    for number, rows, bound in ((0, across, 0), (1, across, 2), (2, upward, 1), (3, upward, 3)):
        if region[bound] is None:
            continue
        if number in (0, 2) and max(rows) < region[bound] or number in (1, 3) and min(rows) >= region[bound]:
            return number
    return None


class RegionTest(Calls, unittest.TestCase):

    def test_is_region(self):
        for thing in GOOD:
            self.assertIs(self.truth(is_region, thing), True, thing)
        for thing in BAD:
            self.assertIs(self.truth(is_region, thing), False, thing)

    def test_of_anything(self):
        for thing in ANYTHING:
            self.assertIs(self.truth(is_region, thing), same(thing, (0, 1, 2, 3)), thing)
        for region in (ROOM, EVERYWHERE, (None, 0, 5, None)):
            for thing in otherwise(region):
                if self.truth(is_region, thing):
                    self.assertTrue(type(thing) is tuple and len(thing) == 4)
                    self.assertTrue(all(number is None or type(number) is int and abs(number) <= MOST for number in thing))
                    self.assertTrue(None in thing[::2] or thing[0] < thing[2])
                    self.assertTrue(None in thing[1::2] or thing[1] < thing[3])
                else:
                    self.refused(NoRegion, side_of, thing, SQUARE)

    def test_side_of(self):
        wanted = [(dot(-1, 5), 0), (dot(0, 5), None), (dot(9, 5), None), (dot(10, 5), 1), (dot(5, -1), 2), (dot(5, 0), None),
                  (dot(5, 9), None), (dot(5, 10), 3), (dot(-1, -1), 0), (dot(-1, 10), 0), (dot(10, -1), 1), (dot(10, 10), 1),
                  (((-5, 5), (-1, 5)), 0), (((-5, 5), (0, 5)), None), (((-5, -5), (20, -5)), 2), (((-5, -5), (20, 20)), None),
                  # No corner is in it, nor is any of the ring, but the box has places of it.
                  (((-1, 5), (5, -1)), None), (((-9, 3), (3, -9), (4, -9)), None)]
        for ring, side in wanted:
            self.assertEqual(self.told(side_of, ROOM, ring), side, ring)
            self.assertIsNone(self.told(side_of, EVERYWHERE, ring))
        self.assertEqual(side_of((5, None, None, None), dot(4, 0)), 0)
        self.assertIsNone(side_of((5, None, None, None), dot(5, 0)))
        self.assertEqual(side_of((None, None, None, -5), dot(0, -5)), 3)
        self.assertIsNone(side_of((None, None, None, -5), dot(MOST, -6)))

    def test_tile_side(self):
        wanted = [((0, -1, 5), 0), ((0, 0, 5), None), ((0, 9, 5), None), ((0, 10, 5), 1), ((0, 5, -1), 2), ((0, 5, 0), None),
                  ((0, 5, 9), None), ((0, 5, 10), 3), ((0, -1, -1), 0), ((0, 10, -1), 1), ((0, 10, 10), 1), ((0, -1, 99), 0),
                  ((1, 4, 0), None), ((1, 5, 0), 1), ((2, 2, 2), None), ((2, 3, 2), 1), ((2, 2, 3), 3), ((2, -1, 0), 0),
                  ((2, 0, -1), 2), ((30, 0, 0), None), ((30, -1, 0), 0), ((30, 1, 0), 1), ((30, 0, 1), 3), ((30, 0, -1), 2),
                  ((30, MOST, MOST), 1), ((30, -MOST, MOST), 0)]
        for tile, side in wanted:
            self.assertEqual(self.told(tile_side, ROOM, *tile), side, tile)
            self.assertIsNone(self.told(tile_side, EVERYWHERE, *tile))
        # The tile from 8 on, below 16.
        for least, side in [(15, None), (16, 0), (17, 0), (8, None), (-9, None)]:
            self.assertEqual(tile_side((least, None, None, None), 3, 1, 1), side)
            self.assertEqual(tile_side((None, least, None, None), 3, 1, 1), None if side is None else 2)
        for beyond, side in [(7, 1), (8, 1), (9, None), (16, None)]:
            self.assertEqual(tile_side((None, None, beyond, None), 3, 1, 1), side)
            self.assertEqual(tile_side((None, None, None, beyond), 3, 1, 1), None if side is None else 3)

    def test_sides_by_chance(self):
        chances = chance(112)
        for _ in range(600):
            region, ring = self.some_region(chances), some_ring(chances, 6)
            self.assertEqual(self.told(side_of, region, ring), first_side(region, ring))
            self.assertIs(side_of(region, ring) is None, meets(region, ring))
            self.assertEqual(self.told(region_gap, region, ring), gap_to(region, ring))
            level = chances.randint(0, 3)
            i, j = chances.randint(-8, 8) >> level, chances.randint(-8, 8) >> level
            # All whole places of a tile, and so all that a region with whole bounds can have of it.
            places = list(itertools.product(range(i << level, i + 1 << level), range(j << level, j + 1 << level)))
            self.assertEqual(self.told(tile_side, region, level, i, j), first_side(region, places))

    def some_region(self, chances):
        while True:
            region = tuple(chances.choice([None] + list(range(-6, 7))) for _ in range(4))
            if is_region(region):
                return region

    def test_region_gap(self):
        wanted = [(dot(5, 5), 0), (dot(-3, 5), 3), (dot(0, 0), 0), (dot(10, 5), 0), (dot(12, 5), 2), (dot(5, -4), 4),
                  (dot(5, 15), 5), (dot(12, 15), 5), (dot(-7, -4), 7), (((-9, 3), (-2, 20)), 2), (((-9, 3), (20, 3)), 0)]
        for ring, gap in wanted:
            self.assertEqual(self.told(region_gap, ROOM, ring), gap, ring)
            self.assertEqual(self.told(region_gap, EVERYWHERE, ring), 0)
        self.assertEqual(region_gap((None, 0, None, 10), dot(-900, 12)), 2)
        self.assertEqual(region_gap((0, None, 10, None), dot(12, -900)), 2)
        self.assertEqual(region_gap((None, None, None, -MOST), dot(MOST, MOST)), 2 * MOST)
        self.assertEqual(region_gap((None, 7, None, None), dot(MOST, -MOST)), MOST + 7)

    def test_refused(self):
        for thing in BAD:
            for function in (side_of, region_gap):
                self.refused(NoRegion, function, thing, SQUARE)
                self.refused(NoRegion, function, thing, None)
            self.refused(NoRegion, tile_side, thing, 0, 0, 0)
            self.refused(NoRegion, tile_side, thing, None, None, None)
        for thing in NO_RINGS:
            self.refused(NoRing, side_of, ROOM, thing)
            self.refused(NoRing, region_gap, ROOM, thing)
        for thing in NO_TILES:
            self.refused(NoTile, tile_side, ROOM, *thing)


class ComesInTest(Calls, unittest.TestCase):

    def test_in_and_out(self):
        row = (0, ((-6, 2), (-4, 2), (-4, 4), (-6, 4)), (2, 0))
        # The greatest x comes to 0, which is in, at 2; the least x comes to 10, which is out, at 8.
        self.assertEqual(self.told(comes_in, row, ROOM, of(0, 99)), of(2, 8, (True, False)))
        for ways in WAYS:
            self.assertEqual(self.told(comes_in, row, ROOM, of(2, 8, ways)), of(2, 8, (ways[0], False)))
            self.assertEqual(self.told(comes_in, row, ROOM, of(4, 6, ways)), of(4, 6, ways))
            self.assertEqual(comes_in(row, ROOM, of(8, 20, ways)), None)
            self.assertEqual(comes_in(row, ROOM, of(0, 2, ways)), of(2, 2) if ways[1] else None)
        self.assertEqual(comes_in(row, (None, None, 10, None), of(0, END)), of(0, 8, (True, False)))
        self.assertEqual(comes_in(row, (0, None, None, None), of(0, END)), of(2, END))
        self.assertEqual(comes_in(row, EVERYWHERE, of(3, 4, (False, False))), of(3, 4, (False, False)))

    def test_the_other_way(self):
        row = (4, ((2, 14),), (0, -3))
        # It comes below 10 just behind 16/3, and is at 0, which is in, at 26/3.
        wanted = ((16, 3), False, (26, 3), True)
        self.assertEqual(self.told(comes_in, row, ROOM, of(0, 99)), wanted)
        self.assertEqual(comes_in(row, (None, None, None, 10), of(0, 99)), ((16, 3), False, (99, 1), True))
        self.assertIsNone(comes_in(row, ROOM, ((0, 1), True, (16, 3), True)))
        self.assertEqual(comes_in(row, ROOM, ((26, 3), True, (99, 1), True)), ((26, 3), True, (26, 3), True))
        self.assertIsNone(comes_in(row, ROOM, ((26, 3), False, (99, 1), True)))

    def test_never_always_and_still(self):
        for x, y, comes in [(0, 0, True), (9, 9, True), (10, 5, False), (5, 10, False), (-1, 5, False), (5, -1, False)]:
            for spell in [of(0, END), of(7, 7), of(3, 4, (False, True))]:
                self.assertEqual(self.told(comes_in, (5, dot(x, y), (0, 0)), ROOM, spell), spell if comes else None)
        self.assertIsNone(self.told(comes_in, (0, dot(-3, 12), (1, 0)), ROOM, of(0, END)))
        self.assertIsNone(self.told(comes_in, (0, dot(-3, 5), (-1, 0)), ROOM, of(0, END)))
        # Past a corner of it: when y comes below 10, x is at 1, which is out, or was at 0 just then.
        self.assertIsNone(self.told(comes_in, (0, dot(-3, 14), (1, -1)), (0, 0, 1, 10), of(0, END)))
        self.assertEqual(self.told(comes_in, (0, dot(-3, 13), (1, -1)), (0, 0, 1, 10), of(0, END)), of(3, 4, (False, False)))

    def test_the_box_and_not_the_ring(self):
        row = (0, ((-1, 5), (5, -1)), (0, 0))
        self.assertEqual(self.told(comes_in, row, (0, 0, 1, 1), of(0, 9)), of(0, 9))

    def test_nowhere(self):
        self.assertIsNone(self.told(comes_in, NOWHERE, ROOM, of(0, 9)))
        self.assertIsNone(self.told(comes_in, NOWHERE, EVERYWHERE, of(0, END)))
        self.refused(NoRegion, comes_in, NOWHERE, None, None)
        self.refused(NoSpell, comes_in, NOWHERE, ROOM, None)

    def test_ahead_of_its_moment(self):
        self.assertEqual(self.told(comes_in, (50, dot(45, 5), (1, 0)), ROOM, of(0, 40)), of(5, 15, (True, False)))

    def test_by_chance(self):
        chances = chance(113)
        found = []
        for _ in range(500):
            row = (chances.randint(0, 9), some_ring(chances, 6), (chances.randint(-2, 2), chances.randint(-2, 2)))
            region, spell = RegionTest.some_region(None, chances), some_stretch(chances)
            told = self.told(comes_in, row, region, spell)
            found.append(told is None)
            self.assertTrue(told is None or is_spell(told))
            for moment in all_moments(row, region, as_number(spell[0]), as_number(spell[2])):
                if has(spell, as_pair(moment)):
                    inside = told is not None and has(told, as_pair(moment))
                    self.assertIs(inside, meets(region, standing(row, moment)), (row, region, spell, moment))
        self.assertTrue(100 < sum(found) < 400)

    def test_refused(self):
        row = (0, OCTAGON, (1, 0))
        self.assertEqual(len(box_lines(row)), 4)
        for thing in NO_ROWS:
            self.refused(NoRow, comes_in, thing, ROOM, of(0, 1))
            self.refused(NoRow, comes_in, thing, None, None)
        for thing in BAD:
            self.refused(NoRegion, comes_in, row, thing, of(0, 1))
            self.refused(NoRegion, comes_in, row, thing, None)
        for thing in NO_SPELLS:
            self.refused(NoSpell, comes_in, row, ROOM, thing)
            self.refused(NoSpell, comes_in, row, EVERYWHERE, thing)


if __name__ == "__main__":
    unittest.main()
