"""Point 14: the five gap lines, and the gap at a moment."""

import unittest
from fractions import Fraction

from shapes import NO_RINGS, SQUARE, TRIANGLE, as_number, as_pair, gap_of, some_ring, standing
from test_questions import NO_MOMENTS
from test_rows import NO_ROWS, NOWHERE
from things import Calls, chance
from wherewhen.errors import NoMoment, NoRing, NoRow
from wherewhen.moving.lines import worth
from wherewhen.nearest.gaps import gap_at, gap_lines

END = 10 ** 6
ROW = (5, ((20, 30), (22, 30), (22, 33), (20, 33)), (-2, 3))


def line(start, slope):
    return ((start, 1), (slope, 1))


class GapsTest(Calls, unittest.TestCase):

    def test_gap_lines(self):
        # At moment 0 the row's box is x from 30 to 32, y from 15 to 18; the square's 0 to 4 both.
        wanted = (line(0, 0), line(0 - 32, 2), line(30 - 4, -2), line(0 - 18, -3), line(15 - 4, 3))
        self.assertEqual(self.told(gap_lines, ROW, SQUARE), wanted)
        still = (7, ((1, 1),), (0, 0))
        self.assertEqual(gap_lines(still, ((1, 1),)), (line(0, 0),) * 5)
        self.assertEqual(gap_lines(still, TRIANGLE), (line(0, 0), line(-1, 0), line(-5, 0), line(-1, 0), line(-2, 0)))

    def test_worths(self):
        lines = gap_lines(ROW, SQUARE)
        self.assertEqual([worth(one, (5, 1)) for one in lines], [(0, 1), (-22, 1), (16, 1), (-33, 1), (26, 1)])
        self.assertEqual([worth(one, (0, 1)) for one in lines], [(0, 1), (-32, 1), (26, 1), (-18, 1), (11, 1)])
        self.assertEqual([worth(one, (1, 2)) for one in lines], [(0, 1), (-31, 1), (25, 1), (-39, 2), (25, 2)])

    def test_gap_at(self):
        row = (0, ((0, 0), (2, 0), (2, 2), (0, 2)), (0, 0))
        for ring, wanted in [(((3, 0),), 1), (((-7, 1),), 7), (((1, 9),), 7), (((0, -3), (2, -3)), 3), (((2, 2),), 0),
                             (((1, 1),), 0), (((5, 6),), 4), (((6, 5),), 4), (((-1, -2),), 2), (((2, 0), (9, 0)), 0)]:
            self.assertEqual(self.told(gap_at, row, ring, (3, 7)), (wanted, 1))
        self.assertEqual(gap_at(ROW, SQUARE, (0, 1)), (26, 1))
        self.assertEqual(gap_at(ROW, SQUARE, (3, 1)), (20, 1))
        self.assertEqual(gap_at(ROW, SQUARE, (5, 1)), (26, 1))
        self.assertEqual(gap_at(ROW, SQUARE, (1, 2)), (25, 1))
        self.assertEqual(gap_at(ROW, SQUARE, (1, 4)), (51, 2))
        self.assertEqual(gap_at(ROW, SQUARE, (END, 1)), (3 * END + 11, 1))

    def test_the_greatest_of_five(self):
        chances = chance(60)
        inner = 0
        for _ in range(300):
            row = (chances.randint(0, 9), some_ring(chances, 5), (chances.randint(-3, 3), chances.randint(-3, 3)))
            ring = some_ring(chances, 5)
            lines = gap_lines(row, ring)
            for moment in [Fraction(0), Fraction(chances.randint(0, 60), 6), Fraction(row[0]), Fraction(END)]:
                wanted = gap_of(standing(row, moment), ring)
                inner += wanted == 0
                self.assertEqual(gap_at(row, ring, as_pair(moment)), as_pair(wanted))
                self.assertEqual(max(as_number(worth(one, as_pair(moment))) for one in lines), wanted)
        self.assertGreater(inner, 100)

    def test_refused(self):
        for thing in NO_ROWS + [NOWHERE]:
            self.refused(NoRow, gap_lines, thing, SQUARE)
            self.refused(NoRow, gap_lines, thing, None)
            self.refused(NoRow, gap_at, thing, None, None)
        for thing in NO_RINGS:
            self.refused(NoRing, gap_lines, ROW, thing)
            self.refused(NoRing, gap_at, ROW, thing, None)
        for thing in NO_MOMENTS:
            self.assertIs(self.refused(NoMoment, gap_at, ROW, SQUARE, thing).moment, thing)


if __name__ == "__main__":
    unittest.main()
