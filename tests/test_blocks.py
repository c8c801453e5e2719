"""Points 1, 24: blocks, their covers, steps summed, counts and stays."""

import unittest
from fractions import Fraction

from books import row, some_tellings, things_at
from shapes import as_number, as_pair
from test_lines import NO_SPELLS, WAYS, of
from test_papers import some_stretch
from test_regions import dot
from things import ANYTHING, SIXTY, Calls, chance, otherwise, same
from wherewhen.books.book import Book
from wherewhen.errors import NoBlock, NoSpell, NoSteps
from wherewhen.joins.shares import are_shares
from wherewhen.numbers.spells import has
from wherewhen.numbers.steps import answer_in, are_steps, stretch_of
from wherewhen.papers.finder import timeline
from wherewhen.tiles.blocks import MOST_SIDE, count_in, cover, is_block, stays, summed

MOST = 10 ** 9
GOOD = [(0, 0, 1, 1), (0, 0, 64, 64), (-3, -5, 4, 59), (-MOST, -MOST, 64 - MOST, 1 - MOST), (MOST - 1, MOST - 64, MOST, MOST)]
BAD = [None, 0, True, (), [], {}, "0 0 1 1", (0, 0, 1), (0, 0, 1, 1, 1), [0, 0, 1, 1], (0, 0, 0, 1), (0, 0, 1, 0), (1, 0, 0, 1),
       (0, 0, 65, 1), (0, 0, 1, 65), (0, 0, -1, 1), (MOST, 0, MOST + 1, 1), (0, MOST, 1, MOST + 1), (-MOST - 1, 0, -MOST, 1),
       (0, -MOST - 1, 1, -MOST), (True, 0, 2, 1), (0, False, 1, 1), (0, 0, True, 1), (0, 0, 1, True), (None, None, None, None),
       (0, None, 1, 1), ((0, 1), 0, 1, 1), (0, 0, "1", 1), (SIXTY, 0, SIXTY + 1, 1)]
STRETCH = of(0, 20)


def in_block(block, place):
    return block[0] <= place[0] < block[2] and block[1] <= place[1] < block[3]


def lies_in(tile, block):
    level, i, j = tile
    return (block[0] <= i << level and (i + 1) << level <= block[2]
            and block[1] <= j << level and (j + 1) << level <= block[3])


def cover_by_all(block):
    """All tiles of all levels that lie in a block, less those that lie in one of a higher level."""
    found = []
    for level in range(0, 31):
        for i in range(block[0] >> level, (block[2] >> level) + 1):
            for j in range(block[1] >> level, (block[3] >> level) + 1):
                if lies_in((level, i, j), block) and not lies_in((level + 1, i >> 1, j >> 1), block):
                    found.append((level, i, j))
    return tuple(sorted(found))


class CoverTest(Calls, unittest.TestCase):

    def test_is_block(self):
        self.assertEqual(MOST_SIDE, 64)
        for thing in GOOD:
            self.assertIs(self.truth(is_block, thing), True, thing)
        for thing in BAD:
            self.assertIs(self.truth(is_block, thing), False, thing)

    def test_of_anything(self):
        for thing in ANYTHING:
            self.assertIs(self.truth(is_block, thing), same(thing, (0, 1, 2, 3)), thing)
        for block in GOOD:
            for thing in otherwise(block):
                told = self.truth(is_block, thing)
                whole = type(thing) is tuple and len(thing) == 4 and all(type(n) is int and abs(n) <= MOST for n in thing)
                self.assertIs(told, whole and 1 <= thing[2] - thing[0] <= 64 and 1 <= thing[3] - thing[1] <= 64)

    def test_cover(self):
        self.assertEqual(self.told(cover, (0, 0, 1, 1)), ((0, 0, 0),))
        self.assertEqual(self.told(cover, (-1, -1, 1, 1)), ((0, -1, -1), (0, -1, 0), (0, 0, -1), (0, 0, 0)))
        self.assertEqual(self.told(cover, (-2, 0, 1, 2)), ((0, 0, 0), (0, 0, 1), (1, -1, 0)))
        self.assertEqual(self.told(cover, (0, 0, 64, 64)), ((6, 0, 0),))
        self.assertEqual(self.told(cover, (-64, 64, 0, 128)), ((6, -1, 1),))
        self.assertEqual(self.told(cover, (-32, -32, 32, 32)), ((5, -1, -1), (5, -1, 0), (5, 0, -1), (5, 0, 0)))
        self.assertEqual(self.told(cover, (0, 0, 64, 32)), ((5, 0, 0), (5, 1, 0)))
        self.assertEqual(self.told(cover, (8, 16, 16, 24)), ((3, 1, 2),))
        self.assertEqual(self.told(cover, (MOST - 1, -MOST, MOST, 1 - MOST)), ((0, MOST - 1, -MOST),))

    def test_cover_by_chance(self):
        chances = chance(140)
        for number in range(120):
            x, y = (chances.randint(-40, 40) for _ in range(2)) if number % 3 else chances.choices([-MOST, MOST - 64], k=2)
            block = (x, y, x + chances.randint(1, 64), y + chances.randint(1, 64))
            told = self.told(cover, block)
            self.assertEqual(told, cover_by_all(block))
            places = [((i << level) + a, (j << level) + b) for level, i, j in told
                      for a in range(1 << level) for b in range(1 << level)]
            self.assertEqual(len(places), len({*places}))
            self.assertEqual(len(places), (block[2] - x) * (block[3] - y))
            self.assertTrue(all(in_block(block, place) for place in places))

    def test_refused(self):
        for thing in BAD:
            self.refused(NoBlock, cover, thing)
            for function in (count_in, stays):
                self.refused(NoBlock, function, Book(), thing, STRETCH)
                self.refused(NoBlock, function, Book(), thing, None)
        for thing in NO_SPELLS:
            self.refused(NoSpell, count_in, Book(), GOOD[0], thing)
            self.refused(NoSpell, stays, Book(), GOOD[0], thing)


class SummedTest(Calls, unittest.TestCase):

    ONE = ((of(0, 4, (True, False)), 3), (of(4, 9), 5))
    OTHER = ((of(0, 4, (True, False)), 2), (of(4, 6, (True, False)), 0), (of(6, 9), -7))

    def test_summed(self):
        self.assertEqual(self.told(summed, (self.ONE,)), self.ONE)
        self.assertEqual(self.told(summed, (self.ONE, self.OTHER)), ((of(0, 6, (True, False)), 5), (of(6, 9), -2)))
        self.assertEqual(self.told(summed, (self.ONE, self.ONE, self.OTHER)),
                         ((of(0, 4, (True, False)), 8), (of(4, 6, (True, False)), 10), (of(6, 9), 3)))
        other = ((of(0, 4), 1), (of(4, 9, (False, True)), 0))
        self.assertEqual(self.told(summed, (self.ONE, other)),
                         ((of(0, 4, (True, False)), 4), (of(4, 4), 6), (of(4, 9, (False, True)), 5)))
        turned = tuple((spell, 10 ** 80 - told) for spell, told in self.ONE)
        self.assertEqual(self.told(summed, (self.ONE, turned)), ((of(0, 9), 10 ** 80),))

    def test_no_steps(self):
        for thing in ANYTHING + [[self.ONE], list((self.ONE, self.OTHER)), {0: self.ONE}, self.ONE]:
            self.refused(NoSteps, summed, thing)
        for told in [True, False, None, "1", (), (1,), (1, 2), [1], {}]:
            self.refused(NoSteps, summed, (((of(0, 9), told),),))
            self.refused(NoSteps, summed, (self.ONE, ((of(0, 9), told),)))
        for ways in WAYS[1:]:
            self.refused(NoSteps, summed, (self.ONE, ((of(0, 9, ways), 1),)))
        for stretch in [of(0, 8), of(1, 9), of(0, 10)]:
            self.refused(NoSteps, summed, (self.ONE, self.ONE, ((stretch, 1),)))
        for thing in [(), None, 0, [self.ONE[0]], ((of(0, 9), 1), (of(9, 9), 2)), ((of(0, 4), 1), (of(4, 9, (False, True)), 1))]:
            self.refused(NoSteps, summed, (thing,))
            self.refused(NoSteps, summed, (self.ONE, thing))

    def test_by_chance(self):
        chances = chance(141)
        for _ in range(60):
            book, stretch = Book(some_tellings(chances, 12)), some_stretch(chances)
            rows = tuple(timeline(book, ("count", 2, chances.randint(-2, 1), chances.randint(-2, 1)), stretch) for _ in range(4))
            told = self.told(summed, rows)
            self.assertTrue(are_steps(told))
            self.assertEqual(stretch_of(told), stretch)
            for moment in moments_in(rows, stretch):
                self.assertEqual(answer_in(told, moment), sum(answer_in(steps, moment) for steps in rows))


def moments_in(rows, stretch):
    """All ends of rows of steps, and moments between and beside them."""
    ends = sorted({as_number(moment) for steps in rows for spell, _ in steps for moment in (spell[0], spell[2])})
    found = ends + [(one + other) / 2 for one, other in zip(ends, ends[1:])]
    found += [moment + Fraction(sign, 10 ** 9) for moment in ends for sign in (-1, 1)]
    return [as_pair(moment) for moment in found if 0 <= moment <= 10 ** 6 and has(stretch, as_pair(moment))]


class StaysTest(Calls, unittest.TestCase):

    BLOCK = (0, 0, 10, 5)
    TOLD = [row("a", 0, dot(-4, 1), (2, 0)), row("b", 0, ((3, 3), (40, 40))), row("c", 0, ((40, 40), (3, 3))),
            row("b", 6, None), row("b", 8, dot(10, 6), (-1, -1)), row("d", 2, dot(9, 5)), row("e", 0, dot(0, 0), (0, 0))]

    def test_stays(self):
        wanted = (("a", (of(2, 7, (True, False)),)),
                  ("b", (of(0, 6, (True, False)), of(9, 14, (False, True)))),
                  ("e", (STRETCH,)))
        self.assertEqual(self.told(stays, Book(self.TOLD), self.BLOCK, STRETCH), wanted)
        self.assertEqual(self.told(stays, Book(self.TOLD), self.BLOCK, of(6, 8)),
                         (("a", (of(6, 7, (True, False)),)), ("e", (of(6, 8),))))
        self.assertEqual(self.told(stays, Book(self.TOLD), self.BLOCK, of(7, 7)), (("e", (of(7, 7),)),))
        self.assertEqual(self.told(stays, Book(self.TOLD), (20, 20, 21, 21), STRETCH), ())
        self.assertEqual(self.told(stays, Book(), self.BLOCK, STRETCH), ())

    def test_one_set_over_two_ways(self):
        told = [row("a", 0, dot(1, 1)), row("a", 5, dot(2, 2)), row("a", 9, dot(30, 2)), row("a", 12, dot(3, 3))]
        self.assertEqual(self.told(stays, Book(told), self.BLOCK, STRETCH), (("a", (of(0, 9, (True, False)), of(12, 20))),))

    def test_count_in(self):
        wanted = ((of(0, 2, (True, False)), 2), (of(2, 6, (True, False)), 3), (of(6, 7, (True, False)), 2), (of(7, 9), 1),
                  (of(9, 14, (False, True)), 2), (of(14, 20, (False, True)), 1))
        self.assertEqual(self.told(count_in, Book(self.TOLD), self.BLOCK, STRETCH), wanted)
        self.assertEqual(self.told(count_in, Book(self.TOLD), (20, 20, 21, 21), STRETCH), ((STRETCH, 0),))
        self.assertEqual(self.told(count_in, Book(), self.BLOCK, STRETCH), ((STRETCH, 0),))

    def test_by_chance(self):
        chances = chance(142)
        for _ in range(60):
            told, stretch = some_tellings(chances, 12, names=8), some_stretch(chances)
            x, y = chances.randint(-9, 6), chances.randint(-9, 6)
            block = (x, y, x + chances.randint(1, 9), y + chances.randint(1, 9))
            shares, steps = self.told(stays, Book(told), block, stretch), self.told(count_in, Book(told), block, stretch)
            self.assertTrue(are_shares(shares))
            parts = tuple(timeline(Book(told), ("count",) + tile, stretch) for tile in cover(block))
            self.assertEqual(steps, summed(parts))
            for moment in moments_in([steps], stretch):
                things = things_at(told, as_number(moment))
                inside = [name for name in things if in_block(block, things[name][0])]
                self.assertEqual([name for name, moments in shares if any(has(spell, moment) for spell in moments)], inside)
                self.assertEqual(answer_in(steps, moment), len(inside))


if __name__ == "__main__":
    unittest.main()
