"""Points 6 and 7: places in rings, touching, spots, parting, within."""

import unittest
from fractions import Fraction

from shapes import MOST, NO_RINGS, OCTAGON, POINT, SIDE, SQUARE, TRIANGLE, as_pair, as_place, holds, some_ring, touch
from test_rings import NO_DIRECTIONS
from things import ANYTHING, SIXTY, Calls, chance, otherwise
from wherewhen.errors import NoRing
from wherewhen.shapes.places import is_in, is_parting, is_place, is_within, parted
from wherewhen.shapes.rings import is_ring, moved

NO_PLACES = [(0, 0), ((0, 1),), ((0, 1), (0, 1), (0, 1)), [(0, 1), (0, 1)], ((0, 2), (0, 1)), ((0, 1), [0, 1]), None, 1,
             True, "ab", {}, ((0, 1), None), ((True, 1), (0, 1)), ((0, 1), (0, True)), (), ((0, 0), (0, 1))]


def at(x, y):
    return (as_pair(x), as_pair(y))


def parts(ring, other, direction):
    p, q = direction
    return max(p * x + q * y for x, y in ring) < min(p * x + q * y for x, y in other)


class PlacesTest(Calls, unittest.TestCase):

    def test_is_place(self):
        for place in [at(0, 0), at(Fraction(-1, 3), 10 ** 12), ((1, SIXTY), (SIXTY, 1))]:
            self.assertTrue(self.truth(is_place, place))
        for thing in NO_PLACES:
            self.assertFalse(self.truth(is_place, thing), thing)
        for thing in ANYTHING + otherwise(at(1, Fraction(1, 2))):
            if self.truth(is_place, thing):
                self.assertEqual(thing, at(*as_place(thing)))
                self.assertTrue(type(thing) is tuple and all(type(n) is int for one in thing for n in one))

    def test_is_in(self):
        half = Fraction(1, 2)
        for ring, inside, outside in [
            (SQUARE, [(0, 0), (4, 4), (2, 0), (4, half), (2, 2)], [(5, 0), (-half, 0), (0, 4 + half), (2, -1)]),
            (TRIANGLE, [(6, 0), (4, 1), (5, half), (0, 3)], [(8, -1), (4, 1 + half), (-2, 4), (7, 0), (5, 1)]),
            (SIDE, [(0, 0), (4, 2), (2, 1), (1, half)], [(6, 3), (-2, -1), (2, 2), (1, 0), (4, 3), (5, 2)]),
            (POINT, [(3, 1)], [(3, 2), (2, 1), (3 + half, 1), (3, half)]),
            (((MOST, MOST),), [(MOST, MOST)], [(MOST + half, MOST), (0, 0)]),
        ]:
            for place in inside:
                self.assertTrue(self.truth(is_in, ring, at(*place)), (ring, place))
            for place in outside + [(10 ** 40, 0), (Fraction(1, 10 ** 40), -10 ** 40)]:
                self.assertFalse(self.truth(is_in, ring, at(*place)), (ring, place))
        self.assertFalse(is_in(SQUARE, at(4 + Fraction(1, SIXTY), 2)))
        self.assertTrue(is_in(SQUARE, at(4 - Fraction(1, SIXTY), 2)))

    def test_is_in_by_chance(self):
        chances = chance(7)
        for _ in range(1500):
            ring = some_ring(chances, 4)
            place = (Fraction(chances.randint(-20, 20), 4), Fraction(chances.randint(-15, 15), 3))
            self.assertEqual(is_in(ring, at(*place)), holds(ring, place), (ring, place))

    def test_is_in_of_anything(self):
        for thing in NO_PLACES + ANYTHING:
            self.assertEqual(self.truth(is_in, SQUARE, thing), is_place(thing) and holds(SQUARE, as_place(thing)))
            for ring in [(), None, SQUARE[::-1]]:
                self.refused(NoRing, is_in, ring, thing)

    def look_at(self, ring, other, touching):
        told = self.told(parted, ring, other)
        self.assertIs(type(told), tuple)
        word, thing = told
        self.assertEqual(word, "spot" if touching else "line", (ring, other))
        if touching:
            self.assertTrue(is_place(thing))
            self.assertTrue(is_in(ring, thing) and is_in(other, thing))
            self.assertTrue(holds(ring, as_place(thing)) and holds(other, as_place(thing)))
        else:
            self.assertTrue(self.truth(is_parting, ring, other, thing))
            self.assertTrue(parts(ring, other, thing))

    def test_parted(self):
        for ring, other, touching in [
            (SQUARE, ((4, 4), (6, 4), (6, 6)), True), (SQUARE, ((4, 1), (9, 1), (9, 3), (4, 3)), True),
            (SQUARE, ((1, 1), (2, 1), (1, 2)), True), (SQUARE, ((-1, 2), (9, 2)), True),
            (((-1, 1), (5, 1), (5, 2), (-1, 2)), ((1, -1), (2, -1), (2, 5), (1, 5)), True),
            (SQUARE, ((5, 3), (3, 5)), True), (SQUARE, ((6, 3), (3, 6)), False),
            (SQUARE, ((5, 0),), False), (SQUARE, ((4, 2),), True), (POINT, POINT, True), (POINT, ((3, 2),), False),
            (SIDE, ((0, 2), (4, 0)), True), (SIDE, ((2, 0), (6, 2)), False), (SIDE, ((6, 3), (8, 4)), False),
            (SIDE, ((4, 2), (8, 4)), True), (SIDE, ((2, 1), (8, 4)), True), (SIDE, ((2, 1),), True),
            (SIDE, ((6, 3),), False), (SIDE, ((2, 2),), False), (TRIANGLE, ((6, 3), (5, 4), (4, 2)), False),
            (TRIANGLE, ((6, 3), (5, 4), (4, 1)), True), (OCTAGON, moved(OCTAGON, (2, 2)), True),
            (OCTAGON, moved(OCTAGON, (3, 3)), False), (((-MOST, -MOST), (MOST, MOST)), ((MOST, MOST - 1),), False),
            (((-MOST, -MOST), (MOST, MOST - 1)), ((-MOST, -MOST + 1), (MOST, MOST - 2)), True),
        ]:
            self.look_at(ring, other, touching)
            self.look_at(other, ring, touching)

    def test_parted_by_chance(self):
        chances = chance(8)
        met = 0
        for count in range(2500):
            most = chances.choice([2, 3, 6, MOST // 2])
            ring, other = some_ring(chances, most), some_ring(chances, most)
            if count % 2:
                other = moved(other, (chances.randint(-2 * most, 2 * most) // 2, chances.randint(-most, most)))
            touching = touch(ring, other)
            met += touching
            self.look_at(ring, other, touching)
            direction = (chances.randint(-3, 3), chances.randint(-3, 3))
            if direction != (0, 0):
                self.assertIs(is_parting(ring, other, direction), parts(ring, other, direction))
        self.assertTrue(500 < met < 2000, met)

    def test_is_parting(self):
        other = moved(SQUARE, (5, 0))
        for direction, wanted in [((1, 0), True), ((-1, 0), False), ((0, 1), False), ((SIXTY, 1), True),
                                  ((1, SIXTY), False), ((4, 1), False), ((5, 1), True)]:
            self.assertIs(self.truth(is_parting, SQUARE, other, direction), wanted)
        self.assertFalse(is_parting(SQUARE, moved(SQUARE, (4, 0)), (1, 0)))
        for thing in NO_DIRECTIONS:
            self.assertFalse(self.truth(is_parting, SQUARE, other, thing))
        for thing in ANYTHING:
            if type(thing) is not tuple:
                self.assertFalse(self.truth(is_parting, SQUARE, other, thing))

    def test_is_within(self):
        for ring, other, wanted in [
            (SQUARE, SQUARE, True), (((1, 0), (4, 3)), SQUARE, True), (((1, 0), (5, 3)), SQUARE, False),
            (SQUARE, ((1, 1), (2, 1), (1, 2)), False), (POINT, SQUARE, True), (POINT, POINT, True),
            (SIDE, POINT, False), (((2, 1),), SIDE, True), (((2, 1), (4, 2)), SIDE, True), (SIDE[::-1], SIDE, True),
            (((2, 1), (6, 3)), SIDE, False), (((2, 2),), SIDE, False), (TRIANGLE, SIDE, False),
        ]:
            self.assertIs(self.truth(is_within, ring, other), wanted, (ring, other))
        chances = chance(9)
        for _ in range(800):
            ring, other = some_ring(chances, 3), some_ring(chances, 5)
            self.assertIs(is_within(ring, other), all(holds(other, corner) for corner in ring))

    def test_is_within_of_anything(self):
        for thing in NO_RINGS + ANYTHING:
            wanted = is_ring(thing) and holds(thing, POINT[0])
            self.assertIs(self.truth(is_within, POINT, thing), wanted)

    def test_refused(self):
        for thing in NO_RINGS:
            self.refused(NoRing, parted, thing, SQUARE)
            self.refused(NoRing, parted, SQUARE, thing)
            self.refused(NoRing, is_within, thing, SQUARE)
            self.refused(NoRing, is_within, thing, None)
            for last in [(1, 0), (0, 0), None]:
                self.refused(NoRing, is_parting, thing, SQUARE, last)
                self.refused(NoRing, is_parting, SQUARE, thing, last)
                self.refused(NoRing, is_in, thing, last)


if __name__ == "__main__":
    unittest.main()
