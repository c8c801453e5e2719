"""Point 9: rows and how they stand at any moment."""

import unittest
from fractions import Fraction

from shapes import NO_RINGS, OCTAGON, POINT, SIDE, SQUARE, TRIANGLE, as_number, as_pair, box, some_ring, standing
from test_rings import NO_DIRECTIONS
from things import ANYTHING, Calls, chance, otherwise
from wherewhen.errors import NoDirection, NoMoment, NoRow
from wherewhen.moving.lines import worth
from wherewhen.moving.rows import box_lines, is_row, reach_line, ring_at
from wherewhen.shapes.rings import is_ring

END = 10 ** 6
FAST = 10 ** 6
NOWHERE = (3, None, (0, 0))
NO_ROWS = [
    (), None, 1, True, "abc", {}, [0, SQUARE, (0, 0)], (0, SQUARE), (0, SQUARE, (0, 0), 0), (-1, SQUARE, (0, 0)),
    (END + 1, SQUARE, (0, 0)), ((0, 1), SQUARE, (0, 0)), (True, SQUARE, (0, 0)), (None, SQUARE, (0, 0)),
    (0, SQUARE, (FAST + 1, 0)), (0, SQUARE, (0, -FAST - 1)), (0, SQUARE, (0,)), (0, SQUARE, [0, 0]),
    (0, SQUARE, (True, 0)), (0, SQUARE, None), (0, SQUARE, (0, 0, 0)), (0, SQUARE, ((0, 1), (0, 1))), (0, None, (0, 1)),
    (0, None, (1, 0)), (0, None, None), (0, None, (False, 0)), (0, None, [0, 0]), (0, False, (0, 0)), (0, (), (0, 0)),
] + [(0, thing, (0, 0)) for thing in NO_RINGS if thing is not None]


class RowsTest(Calls, unittest.TestCase):

    def test_is_row(self):
        for row in [NOWHERE, (0, None, (0, 0)), (END, SQUARE, (0, 0)), (0, POINT, (FAST, -FAST)), (5, SIDE, (-FAST, FAST))]:
            self.assertTrue(self.truth(is_row, row))
        for thing in NO_ROWS:
            self.assertFalse(self.truth(is_row, thing), thing)
        for thing in ANYTHING + otherwise((7, TRIANGLE, (1, -2))) + otherwise(NOWHERE):
            if self.truth(is_row, thing):
                moment, ring, pace = thing
                self.assertTrue(type(thing) is tuple and type(moment) is int and 0 <= moment <= END)
                self.assertTrue(type(pace) is tuple and all(type(n) is int and abs(n) <= FAST for n in pace))
                self.assertTrue(pace == (0, 0) if ring is None else is_ring(ring))

    def test_ring_at(self):
        row = (10, ((0, 0), (3, 1)), (2, -1))
        self.assertEqual(self.told(ring_at, row, (10, 1)), (((0, 1), (0, 1)), ((3, 1), (1, 1))))
        self.assertEqual(self.told(ring_at, row, (21, 2)), (((1, 1), (-1, 2)), ((4, 1), (1, 2))))
        self.assertEqual(self.told(ring_at, row, (0, 1)), (((-20, 1), (10, 1)), ((-17, 1), (11, 1))))
        self.assertEqual(self.told(ring_at, (0, ((10 ** 9, 0),), (FAST, -FAST)), (END, 1)),
                         (((10 ** 9 + FAST * END, 1), (-FAST * END, 1)),))
        self.assertIsNone(self.told(ring_at, NOWHERE, (5, 1)))
        self.assertIsNone(self.told(ring_at, NOWHERE, (0, 1)))

    def test_lines(self):
        row = (10, TRIANGLE, (2, -1))
        self.assertEqual(self.told(reach_line, row, (1, 1)), ((-4, 1), (1, 1)))
        self.assertEqual(self.told(reach_line, (5, POINT, (0, 0)), (-1, 7)), ((4, 1), (0, 1)))
        self.assertEqual(self.told(box_lines, row),
                         (((-20, 1), (2, 1)), ((10, 1), (-1, 1)), ((-14, 1), (2, 1)), ((13, 1), (-1, 1))))

    def test_by_chance(self):
        chances = chance(13)
        for _ in range(400):
            pace = (chances.randint(-5, 5), chances.randint(-5, 5))
            row = (chances.randint(0, 9), some_ring(chances, 9), pace)
            moment = Fraction(chances.randint(0, 100), chances.randint(1, 7))
            corners = standing(row, moment)
            self.assertEqual(ring_at(row, as_pair(moment)), tuple((as_pair(x), as_pair(y)) for x, y in corners))
            direction = (chances.randint(1, 9), chances.randint(-9, 9))
            reached = max(direction[0] * x + direction[1] * y for x, y in corners)
            self.assertEqual(as_number(worth(reach_line(row, direction), as_pair(moment))), reached)
            told = [as_number(worth(line, as_pair(moment))) for line in box_lines(row)]
            self.assertEqual(tuple(told), box(corners))

    def test_refused(self):
        for thing in NO_ROWS:
            self.refused(NoRow, ring_at, thing, (0, 1))
            self.refused(NoRow, ring_at, thing, None)
            self.refused(NoRow, reach_line, thing, (1, 0))
            self.refused(NoRow, reach_line, thing, (0, 0))
            self.refused(NoRow, box_lines, thing)
        self.refused(NoRow, reach_line, NOWHERE, (1, 0))
        self.refused(NoRow, reach_line, NOWHERE, None)
        self.refused(NoRow, box_lines, NOWHERE)
        for row in [NOWHERE, (0, OCTAGON, (1, 1))]:
            for thing in [None, 0, (-1, 1), (END + 1, 1), [0, 1], (2, 2), "0", True]:
                self.assertIs(self.refused(NoMoment, ring_at, row, thing).moment, thing)
        for thing in NO_DIRECTIONS:
            self.refused(NoDirection, reach_line, (0, SQUARE, (1, 1)), thing)


if __name__ == "__main__":
    unittest.main()
