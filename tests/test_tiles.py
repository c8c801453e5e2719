"""Points 1, 24: kids of tiles, the tile that a place is in, full tiles."""

import unittest
from fractions import Fraction

from books import END, row, some_moments, some_tellings, things_at
from shapes import SQUARE, as_pair
from test_lines import of
from test_questions import NO_MOMENTS
from test_regions import NO_TILES, dot
from things import ANYTHING, SIXTY, Calls, chance
from wherewhen.asks.plain import answer
from wherewhen.asks.questions import is_question
from wherewhen.books.book import Book
from wherewhen.errors import NoMoment, NoNumber, NoPlace, NoTile
from wherewhen.numbers.steps import answer_in
from wherewhen.papers.finder import timeline
from wherewhen.tiles.tiles import LEAST, full, kids, tile_of

MOST = 10 ** 9
NO_LEVELS = [-1, 31, True, False, None, "0", (0,), [0], {}, SIXTY]


class KidsTest(Calls, unittest.TestCase):

    def test_kids(self):
        self.assertEqual(self.told(kids, 1, 0, 0), ((0, 0, 0), (0, 0, 1), (0, 1, 0), (0, 1, 1)))
        self.assertEqual(self.told(kids, 3, -1, 5), ((2, -2, 10), (2, -2, 11), (2, -1, 10), (2, -1, 11)))
        for level in range(1, 31):
            for i, j in [(0, 0), (-3, 7), (12, -9)]:
                told = self.told(kids, level, i, j)
                self.assertEqual(told, tuple(sorted(told)))
                self.assertEqual(len({*told}), 4)
                for kid_level, kid_i, kid_j in told:
                    self.assertEqual((kid_level, kid_i // 2, kid_j // 2), (level - 1, i, j))

    def test_beyond_the_numbers_of_tiles(self):
        told = self.told(kids, 30, MOST, -MOST)
        self.assertEqual(told[0], (29, 2 * MOST, -2 * MOST))
        self.assertFalse(is_question(("count",) + told[0]))
        self.refused(NoTile, kids, *told[0])

    def test_no_tile(self):
        for i, j in [(0, 0), (5, -5)]:
            self.refused(NoTile, kids, 0, i, j)
        for thing in NO_TILES:
            self.refused(NoTile, kids, *thing)
        for thing in ANYTHING:
            if not (type(thing) is int and 1 <= thing <= 30):
                self.refused(NoTile, kids, thing, 0, 0)

    def test_counts_of_kids_together(self):
        chances = chance(130)
        for _ in range(40):
            book, stretch = Book(some_tellings(chances, 12)), of(0, 14)
            level, i, j = chances.randint(1, 4), chances.randint(-2, 1), chances.randint(-2, 1)
            whole = timeline(book, ("count", level, i, j), stretch)
            parts = [timeline(book, ("count",) + kid, stretch) for kid in kids(level, i, j)]
            for moment in [as_pair(Fraction(number, 5)) for number in range(70)]:
                self.assertEqual(answer_in(whole, moment), sum(answer_in(part, moment) for part in parts))


class TileOfTest(Calls, unittest.TestCase):

    def test_tile_of(self):
        wanted = [((0, 0), 0, (0, 0)), ((1, -1), 0, (1, -1)), ((Fraction(-1, 2), Fraction(1, 2)), 0, (-1, 0)),
                  ((8, 16), 3, (1, 2)), ((Fraction(15, 2), Fraction(31, 2)), 3, (0, 1)), ((-8, -9), 3, (-1, -2)),
                  ((Fraction(-1, 10 ** 50), Fraction(10 ** 50 - 1, 10 ** 50)), 0, (-1, 0)), ((2 ** 30, 2 ** 30 - 1), 30, (1, 0)),
                  ((-1, Fraction(2 ** 31 * 3 - 1, 3)), 30, (-1, 1)), ((10 ** 80, -1), 0, (10 ** 80, -1)),
                  ((Fraction(-5, 3), Fraction(7, 3)), 0, (-2, 2)), ((Fraction(-9, 2), Fraction(9, 2)), 1, (-3, 2))]
        for (x, y), level, tile in wanted:
            self.assertEqual(self.told(tile_of, (as_pair(x), as_pair(y)), level), tile)

    def test_just_the_tile_that_counts_it(self):
        for x in range(-5, 6):
            for level in (0, 1, 2, 30):
                i, j = self.told(tile_of, ((x, 1), (7, 1)), level)
                book = Book([row("a", 0, dot(x, 7))])
                self.assertEqual(answer(book, ("count", level, i, j), (0, 1)), 1)
                self.assertEqual(answer(book, ("count", level, i + 1, j), (0, 1)), 0)

    def test_refused(self):
        for thing in [None, 0, (), (0, 0), ((0, 1),), ((0, 1), (2, 2)), [(0, 1), (0, 1)], ((True, 1), (0, 1)), "0", {}]:
            self.refused(NoPlace, tile_of, thing, 0)
            self.refused(NoPlace, tile_of, thing, None)
        for thing in NO_LEVELS:
            self.refused(NoTile, tile_of, ((0, 1), (0, 1)), thing)


class FullTest(Calls, unittest.TestCase):

    TOLD = [row("a", 0, dot(1, 1), (1, 0)), row("b", 0, ((2, 2), (-9, -9))), row("c", 3, dot(-1, 0)), row("d", 0, SQUARE),
            row("a", 9, None), row("e", 0, dot(2, 3))]

    def test_full(self):
        self.assertEqual(LEAST, 1)
        book = Book(self.TOLD)
        self.assertEqual(self.told(full, book, 0, (0, 1)), ((0, 0, 1), (1, 1, 1), (2, 2, 1), (2, 3, 1)))
        self.assertEqual(self.told(full, book, 1, (0, 1)), ((0, 0, 2), (1, 1, 2)))
        self.assertEqual(self.told(full, book, 1, (0, 1), least=2), ((0, 0, 2), (1, 1, 2)))
        self.assertEqual(self.told(full, book, 1, (1, 1), least=2), ((1, 1, 2),))
        self.assertEqual(self.told(full, book, 1, (1, 1)), ((0, 0, 1), (1, 0, 1), (1, 1, 2)))
        self.assertEqual(self.told(full, book, 2, (5, 2)), ((0, 0, 4),))
        self.assertEqual(self.told(full, book, 2, (3, 1)), ((-1, 0, 1), (0, 0, 3), (1, 0, 1)))
        self.assertEqual(self.told(full, book, 2, (9, 1)), ((-1, 0, 1), (0, 0, 3)))
        self.assertEqual(self.told(full, book, 30, (9, 1)), ((-1, 0, 1), (0, 0, 3)))
        for least, wanted in [(3, ((0, 0, 3),)), (4, ()), (13, ()), (SIXTY, ())]:
            self.assertEqual(self.told(full, book, 30, (9, 1), least=least), wanted)
        self.assertEqual(self.told(full, Book(), 0, (9, 1)), ())
        self.assertEqual(self.told(full, Book([row("a", 5, dot(0, 0))]), 0, (9, 2)), ())

    def test_beyond_the_numbers_of_tiles(self):
        book = Book([row("a", 0, ((MOST, -MOST),), (10 ** 6, -10 ** 6))])
        self.assertEqual(self.told(full, book, 0, (END, 1)), ((MOST + 10 ** 12, -MOST - 10 ** 12, 1),))

    def test_by_chance(self):
        chances = chance(131)
        for _ in range(60):
            told, level, least = some_tellings(chances, 12, names=10), chances.randint(0, 3), chances.randint(1, 3)
            for moment in some_moments(chances, 5):
                found = {}
                for corners in things_at(told, moment).values():
                    tile = (corners[0][0] // 2 ** level, corners[0][1] // 2 ** level)
                    found[tile] = found.get(tile, 0) + 1
                wanted = sorted(tile + (many,) for tile, many in found.items() if many >= least)
                self.assertEqual(self.told(full, Book(told), level, as_pair(moment), least=least), tuple(wanted))

    def test_refused(self):
        book = Book(self.TOLD)
        for thing in NO_LEVELS:
            self.refused(NoTile, full, book, thing, (0, 1))
            self.refused(NoTile, full, book, thing, None, least=0)
        for thing in NO_MOMENTS:
            self.assertIs(self.refused(NoMoment, full, book, 0, thing).moment, thing)
            self.assertIs(self.refused(NoMoment, full, book, 0, thing, least=0).moment, thing)
        for thing in [0, -1, True, False, None, "1", (1,), [1], {}, -SIXTY]:
            self.assertIs(self.refused(NoNumber, full, book, 0, (0, 1), least=thing).number, thing)


if __name__ == "__main__":
    unittest.main()
