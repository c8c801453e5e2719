"""Points 5 and 6: corners, rings, boxes, gaps, directions, reach, fences."""

import unittest

from shapes import MOST, NO_RINGS, OCTAGON, POINT, SIDE, SQUARE, TRIANGLE, box, cross, gap_of, some_ring
from things import ANYTHING, SIXTY, Calls, chance, otherwise
from wherewhen.errors import NoDirection, NoPlace, NoRing
from wherewhen.shapes.rings import box_of, fences, gap, is_ring, moved, reach, turned

RINGS = [SQUARE, TRIANGLE, OCTAGON, SIDE, POINT, SIDE[::-1], ((MOST, -MOST),), ((-MOST, -MOST), (MOST, MOST)),
         ((-MOST, -MOST), (MOST, -MOST), (MOST, MOST), (-MOST, MOST)), tuple((k, k * k) for k in range(8))]
NO_DIRECTIONS = [(0, 0), (), (1,), (1, 0, 0), [1, 0], None, True, (True, 0), (0, False), (1, None), ("1", 0), "10",
                 {1: 0}, ((1, 1), 0), 1]


def is_one(thing):
    """What a ring is, in the words of the point."""
    if type(thing) is not tuple or not 1 <= len(thing) <= 8:
        return False
    for corner in thing:
        if type(corner) is not tuple or len(corner) != 2:
            return False
        if not all(type(number) is int and abs(number) <= MOST for number in corner):
            return False
    if len(thing) == 2:
        return thing[0] != thing[1]
    for at, begin in enumerate(thing):
        beside = (at + 1) % len(thing)
        for other in range(len(thing)):
            if other not in (at, beside) and not cross(begin, thing[beside], thing[other]) > 0:
                return False
    return True


class RingsTest(Calls, unittest.TestCase):

    def test_is_ring(self):
        for ring in RINGS:
            for at in range(len(ring)):
                self.assertTrue(self.truth(is_ring, ring[at:] + ring[:at]))
        for thing in NO_RINGS:
            self.assertFalse(self.truth(is_ring, thing), thing)

    def test_is_ring_of_anything(self):
        for thing in ANYTHING + otherwise(TRIANGLE) + otherwise(SIDE) + otherwise(POINT):
            self.assertEqual(self.truth(is_ring, thing), is_one(thing), thing)

    def test_is_ring_by_chance(self):
        chances = chance(5)
        for _ in range(400):
            ring = some_ring(chances, chances.choice([2, 5, MOST]))
            self.assertTrue(is_ring(ring))
            if len(ring) > 2:
                self.assertFalse(is_ring(ring[::-1]))
                self.assertFalse(is_ring(ring + ring[:1]))
                begin, end = ring[:2]
                middle = ((begin[0] + end[0]) // 2, (begin[1] + end[1]) // 2)
                self.assertEqual(is_ring((begin, middle) + ring[1:]), is_one((begin, middle) + ring[1:]))
                mixed = list(ring)
                chances.shuffle(mixed)
                self.assertEqual(is_ring(tuple(mixed)), is_one(tuple(mixed)))

    def test_box_of(self):
        self.assertEqual(self.told(box_of, TRIANGLE), (0, 0, 6, 3))
        self.assertEqual(self.told(box_of, SIDE[::-1]), (0, 0, 4, 2))
        self.assertEqual(self.told(box_of, POINT), (3, 1, 3, 1))

    def test_gap(self):
        for other, wanted in [(((5, 0),), 1), (((-3, 9),), 5), (((0, -7), (1, -9)), 7), (((4, 4),), 0), (((4, 1),), 0),
                              (((9, 4), (9, 12)), 5), (SQUARE, 0), (((2, 2),), 0), (((-MOST, MOST),), MOST)]:
            self.assertEqual(self.told(gap, SQUARE, other), wanted)
            self.assertEqual(self.told(gap, other, SQUARE), wanted)
        chances = chance(6)
        for _ in range(300):
            ring, other = some_ring(chances, 9), some_ring(chances, 9)
            self.assertEqual(gap(ring, other), gap_of(ring, other))
            self.assertEqual(box_of(ring), box(ring))

    def test_fences(self):
        self.assertEqual(self.told(fences, TRIANGLE), ((0, -6), (3, 6), (-3, 0)))
        self.assertEqual(self.told(fences, TRIANGLE[1:] + TRIANGLE[:1]), ((3, 6), (-3, 0), (0, -6)))
        self.assertEqual(self.told(fences, SIDE), ((2, -4), (-2, 4), (4, 2), (-4, -2)))
        self.assertEqual(self.told(fences, POINT), ((1, 0), (-1, 0), (0, 1), (0, -1)))
        self.assertEqual(self.told(fences, SQUARE), ((0, -4), (4, 0), (0, 4), (-4, 0)))

    def test_reach(self):
        self.assertEqual(self.told(reach, TRIANGLE, (1, 1)), 6)
        self.assertEqual(self.told(reach, TRIANGLE, (-1, -1)), 0)
        self.assertEqual(self.told(reach, POINT, (-2, 5)), -1)
        self.assertEqual(self.told(reach, SQUARE, (SIXTY, -SIXTY)), 4 * SIXTY)

    def test_moved(self):
        self.assertEqual(self.told(moved, TRIANGLE, (-2, 5)), ((-2, 5), (4, 5), (-2, 8)))
        self.assertEqual(self.told(moved, ((0, 0),), (MOST, -MOST)), ((MOST, -MOST),))
        self.refused(NoRing, moved, ((1, 0),), (MOST, 0))
        self.refused(NoRing, moved, ((0, 0), (0, -1)), (0, -MOST))
        for thing in [(MOST + 1, 0), (0, -MOST - 1), (0,), (0, 0, 0), [0, 0], None, 0, (True, 0), (0, None), "00", {},
                      ((0, 1), (0, 1))]:
            self.refused(NoPlace, moved, ((MOST, MOST),), thing)

    def test_turned(self):
        self.assertEqual(self.told(turned, TRIANGLE), ((0, 0), (0, 6), (-3, 0)))
        for ring in RINGS:
            told = ring
            for _ in range(4):
                told = self.told(turned, told)
                self.assertTrue(is_ring(told))
            self.assertEqual(told, ring)

    def test_refused(self):
        for thing in NO_RINGS:
            for function in [box_of, fences, turned]:
                self.refused(NoRing, function, thing)
            self.refused(NoRing, gap, thing, POINT)
            self.refused(NoRing, gap, POINT, thing)
            for last in [(1, 0), (0, 0), None]:
                self.refused(NoRing, reach, thing, last)
                self.refused(NoRing, moved, thing, last)
        for thing in NO_DIRECTIONS:
            self.refused(NoDirection, reach, SQUARE, thing)


if __name__ == "__main__":
    unittest.main()
