"""Points 5, 6, 7: rings and places tell what they told when each corner was counted along each side."""

import itertools
import unittest

from shapes import hull, some_ring
from things import Calls, chance
from wherewhen.errors import NoPlace, NoRing
from wherewhen.shapes.places import is_in, is_parting, is_within, parted
from wherewhen.shapes.rings import fences, gap, is_ring, moved, turned

A = ((2, 0), (4, 1), (5, 3), (4, 5), (2, 6), (0, 5), (-1, 3), (0, 1))
B = ((3, 1), (5, 2), (6, 4), (5, 6), (3, 7), (1, 6), (0, 4), (1, 2))
F = ((22, 0), (24, 1), (25, 3), (24, 5), (22, 6), (20, 5), (19, 3), (20, 1))
S = ((0, 0), (4, 0), (4, 4), (0, 4))
T = ((1, 1), (5, 1), (5, 5), (1, 5))
ROWS = (A, B, F, S, T)
DIRECTIONS = ((1, 2), (1, 0), (-1, 0), (0, 1), (0, -1), (-3, 7), (2, -1), (-1, -2))
SPOTS = [[(2, 0), (5, 3), None, (2, 0), (4, 1)], [(3, 1), (3, 1), None, (3, 1), (3, 1)], [None, None, (22, 0), None, None],
         [(4, 4), (4, 4), None, (0, 0), (4, 4)], [(1, 1), (5, 5), None, (1, 1), (1, 1)]]
PARTINGS = [[None, None, (1, -2), None, None], [None, None, (1, -2), None, None],
            [(-1, 2), (-1, 2), None, (-1, 2), (-1, 2)], [None, None, (4, 0), None, None], [None, None, (4, 0), None, None]]


def is_ring_by_all(corners):
    """Each other corner strictly left of each side, looked at one by one."""
    for at, (x, y) in enumerate(corners):
        to_x, to_y = corners[(at + 1) % len(corners)]
        for other in range(at + 2, at + len(corners)):
            far_x, far_y = corners[other % len(corners)]
            if (to_x - x) * (far_y - y) - (to_y - y) * (far_x - x) <= 0:
                return False
    return len(corners) != 2 or corners[0] != corners[1]


class AlikeTest(Calls, unittest.TestCase):

    def test_is_ring(self):
        for ring in ROWS:
            for at in range(len(ring)):
                self.assertIs(self.truth(is_ring, ring[at:] + ring[:at]), True)
            self.assertIs(self.truth(is_ring, ring[::-1]), False)

    def test_is_ring_of_stars(self):
        for ring, step in [(A, 3), (B, 3), (((0, 3), (-3, 1), (-2, -3), (2, -3), (3, 1)), 2),
                           (((0, 9), (-7, 6), (-9, -2), (-4, -8), (4, -8), (9, -2), (7, 6)), 2),
                           (((0, 9), (-7, 6), (-9, -2), (-4, -8), (4, -8), (9, -2), (7, 6)), 3)]:
            self.assertTrue(is_ring(ring))
            star = tuple(ring[at * step % len(ring)] for at in range(len(ring)))
            for at in range(len(star)):
                (x, y), (to_x, to_y), (far_x, far_y) = (star + star)[at:at + 3]
                self.assertGreater((to_x - x) * (far_y - y), (to_y - y) * (far_x - x))
            self.assertIs(self.truth(is_ring, star), False)

    def test_is_ring_of_lines_and_of_corners_twice(self):
        for thing in [((0, 0), (1, 1), (2, 2)), ((0, 0), (2, 0), (4, 0), (4, 4)), ((0, 0), (4, 0), (4, 4), (2, 2)),
                      ((0, 0), (0, 0)), ((0, 0), (4, 0), (4, 0), (0, 4)), ((0, 0), (4, 0), (0, 0)), S + S[:1], S[:1] + S,
                      A[:7] + A[:1], ((0, 0), (4, 0), (0, 4), (0, 0)), S + S, T[:3] + T[:3], ((0, 0),) * 3]:
            self.assertIs(self.truth(is_ring, thing), False)

    def test_is_ring_of_all_on_a_grid(self):
        grid = list(itertools.product(range(3), repeat=2))
        for many in (1, 2, 3, 4):
            for corners in itertools.product(grid, repeat=many):
                self.assertIs(is_ring(corners), is_ring_by_all(corners), corners)

    def test_is_ring_by_chance(self):
        chances = chance(100)
        rings = 0
        for _ in range(4000):
            points = [(chances.randint(-4, 4), chances.randint(-4, 4)) for _ in range(chances.randint(5, 8))]
            corners = hull(points)[:8]
            for thing in (tuple(points), corners, corners[::-1], corners[2:] + corners[:2], corners[1:2] + corners):
                if 0 < len(thing) <= 8:
                    rings += is_ring(thing)
                    self.assertIs(is_ring(thing), is_ring_by_all(thing), thing)
        self.assertGreater(rings, 4000)

    def test_parted(self):
        for ring, spots, partings in zip(ROWS, SPOTS, PARTINGS):
            for other, spot, direction in zip(ROWS, spots, partings):
                wanted = ("line", direction) if spot is None else ("spot", ((spot[0], 1), (spot[1], 1)))
                self.assertEqual(self.told(parted, ring, other), wanted)

    def test_parted_where_sides_cross_alone(self):
        across, upward = ((0, 1), (9, 1), (9, 2), (0, 2)), ((3, -5), (4, -5), (4, 8), (3, 8))
        self.assertEqual(self.told(parted, across, upward), ("spot", ((4, 1), (1, 1))))
        self.assertEqual(self.told(parted, upward, across), ("spot", ((4, 1), (2, 1))))
        self.assertEqual(self.told(parted, ((0, 0), (3, 2)), ((0, 2), (2, 0))), ("spot", ((6, 5), (4, 5))))
        self.assertEqual(self.told(parted, ((0, 0), (3, 2)), ((4, 0), (9, 9))), ("line", (9, -5)))

    def test_is_parting(self):
        away, back = [True, True, False, False, False, False, True, False], [False, False, True, False, False, True, False, True]
        for ring in ROWS:
            for other in ROWS:
                wanted = [False] * 8
                if (ring == F) != (other == F):
                    wanted = back if ring == F else away
                self.assertEqual([self.truth(is_parting, ring, other, one) for one in DIRECTIONS], wanted)

    def test_is_in(self):
        places = [((2, 1), (2, 1)), ((0, 1), (0, 1)), ((1, 1), (1, 2)), ((1, 1), (1, 3)), ((5, 1), (3, 1)), ((4, 1), (4, 1)),
                  ((1001, 200), (3, 1)), ((22, 1), (6, 1))]
        wanted = {A: "10101100", B: "10001110", F: "00000001", S: "11110100", T: "10001100"}
        for ring in ROWS:
            self.assertEqual("".join(str(int(self.truth(is_in, ring, place))) for place in places), wanted[ring])

    def test_is_in_of_two_corners_and_of_one(self):
        line = ((1, 1), (5, 3))
        for place, fits in [(((1, 1), (1, 1)), True), (((5, 1), (3, 1)), True), (((2, 1), (3, 2)), True), (((3, 1), (2, 1)), True),
                            (((7, 1), (4, 1)), False), (((-1, 1), (0, 1)), False), (((3, 1), (3, 1)), False),
                            (((3, 1), (1, 1)), False), (((51, 10), (61, 20)), False)]:
            self.assertIs(self.truth(is_in, line, place), fits)
            self.assertIs(self.truth(is_in, line[::-1], place), fits)
        level = ((1, 1), (5, 1))
        for x, fits in [(0, False), (1, True), (4, True), (5, True), (6, False)]:
            self.assertIs(self.truth(is_in, level, ((x, 1), (1, 1))), fits)
            self.assertIs(self.truth(is_in, turned(level), ((-1, 1), (x, 1))), fits)
        for place, fits in [(((3, 1), (2, 1)), True), (((3, 1), (7, 3)), False), (((10, 3), (2, 1)), False)]:
            self.assertIs(self.truth(is_in, ((3, 2),), place), fits)

    def test_is_within(self):
        for ring in ROWS:
            for other in ROWS:
                self.assertIs(self.truth(is_within, ring, other), ring == other)
        inner = ((1, 2), (3, 2), (3, 4), (1, 4))
        self.assertEqual([self.truth(is_within, inner, other) for other in ROWS], [True, True, False, True, True])
        self.assertFalse(self.truth(is_within, A, inner))

    def test_fences(self):
        self.assertEqual(self.told(fences, ((1, 5), (4, 3))), ((-2, -3), (2, 3), (3, -2), (-3, 2)))
        self.assertEqual(self.told(fences, T), ((0, -4), (4, 0), (0, 4), (-4, 0)))
        self.assertEqual(self.told(fences, ((7, 7),)), ((1, 0), (-1, 0), (0, 1), (0, -1)))

    def test_moved_turned_gap(self):
        self.assertEqual(self.told(moved, A, (1, 1)), B)
        self.assertEqual(self.told(turned, S), ((0, 0), (0, 4), (-4, 4), (-4, 0)))
        self.assertEqual([self.told(gap, A, other) for other in ROWS], [0, 0, 14, 0, 0])
        for step in [(10 ** 9, 0), (0, 10 ** 9), (10 ** 9 - 4, 0), (0, 10 ** 9 - 5)]:
            self.refused(NoRing, moved, A, step)
        self.assertEqual(moved(A, (10 ** 9 - 5, 10 ** 9 - 6))[0], (10 ** 9 - 3, 10 ** 9 - 6))
        self.assertEqual(moved(A, (1 - 10 ** 9, -10 ** 9))[6], (-10 ** 9, 3 - 10 ** 9))
        for step in [(True, 0), (0, False), (10 ** 9 + 1, 0), (0, -10 ** 9 - 1), [0, 0], (0,), None, (0, 0, 0)]:
            self.refused(NoPlace, moved, A, step)
            self.refused(NoRing, moved, A[::-1], step)

    def test_at_the_farthest(self):
        most = 10 ** 9
        wide = ((-most, -most), (most, -most), (most, most), (-most, most))
        self.assertTrue(is_ring(wide))
        for corner in [(most + 1, most), (most, most + 1), (True, most), (most, True)]:
            self.assertIs(self.truth(is_ring, wide[:2] + (corner,) + wide[3:]), False)
        for corner in [(-most - 1, most), (-most, most + 1), (False, most), (-most, False), [-most, most]]:
            self.assertIs(self.truth(is_ring, wide[:3] + (corner,)), False)
        for ring in (A, F, S):
            self.assertTrue(is_within(ring, wide))
            self.assertFalse(is_within(wide, ring))
        self.assertEqual(parted(wide, A)[0], "spot")

    def test_never_both_nor_neither(self):
        chances = chance(101)
        for _ in range(600):
            ring, other = some_ring(chances, 5), some_ring(chances, 5)
            word, thing = parted(ring, other)
            if word == "spot":
                self.assertTrue(is_in(ring, thing) and is_in(other, thing))
                self.assertEqual(parted(other, ring)[0], "spot")
            else:
                self.assertTrue(is_parting(ring, other, thing))
                self.assertTrue(is_parting(other, ring, (-thing[0], -thing[1])))


if __name__ == "__main__":
    unittest.main()
