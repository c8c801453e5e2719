"""Points 1, 2, 22, 23: houses, their letters and books, and what they are asked."""

import unittest
from fractions import Fraction

from books import END, NO_QUESTIONS, NO_TELLINGS, QUESTIONS, row, some_questions, some_tellings
from parcels import FOUR, answers_alike, are_enough, gap_to, houses_in, kept, region_by_path, some_cuts
from shapes import SQUARE, as_number
from test_cuts import BAD as NO_CUTS, NO_AT, NO_AXES, NO_HOUSES
from test_lines import NO_SPELLS, of
from test_papers import some_stretch
from test_regions import dot, first_side
from things import ANYTHING, SIXTY, Calls, chance
from wherewhen.books.book import Book
from wherewhen.cuts.cuts import WHOLE
from wherewhen.errors import NoCut, NoCuts, NoHouse, NoNumber, NoQuestion, NoSpell, NoTelling, TooMany
from wherewhen.houses.houses import Houses
from wherewhen.papers.finder import timeline

NO_COUNTS = [-1, True, False, "1", (0, 1), [1], {}, SIXTY, -SIXTY]
STRETCH = of(0, 20)
# Three in a row: below 0, from 0 on below 10, from 10 on.
THREE = (0, 0, 0, (0, 10, 1, 2))
CROSSING = row("a", 2, dot(-3, 0), (1, 0))
TOLD = [CROSSING, row("b", 0, dot(5, 5)), row("a", 4, None), row("b", 3, dot(50, 5)), ("back", 2),
        row("c", 1, dot(12, 0), (-1, 0))]


def houses_over(cuts, told, letters=None):
    """Houses to which all letters came, or just these of each house."""
    houses = Houses(cuts)
    for telling in told:
        houses.post(telling)
    for house in houses_in(cuts):
        for number in range(len(told)) if letters is None else letters.get(house, ()):
            houses.hear(house, number)
    return houses


def state(houses):
    """All that is to be seen of houses."""
    numbers = houses_in(houses.cuts())
    return (houses.cuts(), houses.book().told(), len(houses), [houses.under_way(house) for house in numbers],
            [houses.heard(house) for house in numbers], [houses.book_of(house).told() for house in numbers])


class LettersTest(Calls, unittest.TestCase):

    def test_at_first(self):
        houses = Houses()
        self.assertEqual((houses.cuts(), len(houses), houses.heard(0), houses.under_way(0)), (WHOLE, 1, 0, ()))
        self.assertEqual((houses.book(), houses.book_of(0), houses.gathered((0,))), (Book(), Book(), Book()))
        self.assertEqual(len(Houses(FOUR)), 4)
        self.assertEqual(Houses(42).cuts(), 42)
        for thing in NO_CUTS:
            self.refused(NoCuts, Houses, thing)

    def test_post(self):
        houses = Houses(THREE)
        self.assertEqual([houses.post(telling) for telling in TOLD], [0, 1, 2, 3, 4, 5])
        self.assertEqual(houses.book(), Book(TOLD))
        self.assertEqual([houses.heard(house) for house in (0, 1, 2)], [0, 0, 0])
        self.assertEqual(houses.under_way(2), (0, 1, 2, 3, 4, 5))

    def test_heard(self):
        houses = houses_over(THREE, TOLD, {})
        wanted = [(3, 0, (0, 1, 2, 4, 5)), (1, 0, (0, 2, 4, 5)), (1, 0, (0, 2, 4, 5)), (0, 2, (2, 4, 5)), (3, 2, (2, 4, 5)),
                  (5, 2, (2, 4)), (2, 4, (4,)), (4, 6, ()), (0, 6, ())]
        for number, heard, under_way in wanted:
            self.assertIsNone(houses.hear(1, number))
            self.assertEqual((houses.heard(1), houses.under_way(1)), (heard, under_way))
        self.assertEqual((houses.heard(0), houses.heard(2)), (0, 0))
        houses.post(row("d", 0, dot(0, 0)))
        self.assertEqual((houses.heard(1), houses.under_way(1)), (6, (6,)))

    def test_hear_refused(self):
        houses = houses_over(FOUR, TOLD[:2], {})
        ahead = state(houses)
        for thing in NO_HOUSES:
            self.assertIs(self.refused(NoHouse, houses.hear, thing, 0).house, thing)
            self.assertIs(self.refused(NoHouse, houses.hear, thing, None).house, thing)
            for function in (houses.heard, houses.under_way, houses.book_of, houses.uncut):
                self.assertIs(self.refused(NoHouse, function, thing).house, thing)
            self.assertIs(self.refused(NoHouse, houses.book_of, thing, number=-1).house, thing)
        for thing in NO_COUNTS + [2, None]:
            self.assertIs(self.refused(NoNumber, houses.hear, 7, thing).number, thing)
        self.assertEqual(state(houses), ahead)

    def test_post_refused(self):
        houses = houses_over(FOUR, TOLD[:2], {7: (0,)})
        ahead = state(houses)
        for thing in NO_TELLINGS + [("back", 2), ("back", SIXTY)]:
            self.assertEqual(self.refused(NoTelling, houses.post, thing).number, 2)
        many = houses_over(WHOLE, [row("a", number, SQUARE) for number in range(100)])
        self.refused(TooMany, many.post, row("a", 0, SQUARE))
        self.assertEqual(self.refused(NoTelling, many.post, ("back", 100)).number, 100)
        self.assertEqual((state(houses), len(many.book()), many.heard(0)), (ahead, 100, 100))
        names = houses_over(WHOLE, [row(chr(97 + number), 0, SQUARE) for number in range(12)])
        self.refused(TooMany, names.post, row("z", 0, None))

    def test_equal(self):
        one, other = houses_over(FOUR, TOLD), houses_over(FOUR, TOLD)
        self.assertTrue(one == other)
        other.hear(3, 0)
        self.assertTrue(one == other)
        one.post(("back", 0))
        self.assertFalse(one == other)
        other.post(("back", 0))
        one.hear(7, 6)
        self.assertFalse(one == other)
        other.hear(7, 6)
        self.assertTrue(one == other)
        self.assertFalse(Houses(0) == Houses(1))
        self.assertFalse(Houses((0, 0, 0, 1)) == Houses((0, 1, 0, 1)))
        self.assertFalse(Houses((0, 0, 0, 1)) == Houses((0, 0, 1, 0)))
        self.assertTrue(Houses(THREE) != Houses(FOUR))
        for thing in ANYTHING + [Book(), FOUR]:
            self.assertIs(Houses() == thing, False)


class CutHousesTest(Calls, unittest.TestCase):

    def test_cut(self):
        houses = houses_over((0, 0, 0, 1), TOLD, {0: (0, 1, 4), 1: (2,)})
        self.assertEqual(houses.cut(0, 1, 5), 2)
        self.assertEqual(houses.cuts(), (0, 0, (1, 5, 0, 2), 1))
        self.assertEqual([houses.under_way(house) for house in (0, 1, 2)], [(2, 3, 5), (0, 1, 3, 4, 5), (2, 3, 5)])
        houses.hear(0, 2)
        houses.hear(2, 5)
        self.assertEqual([houses.heard(house) for house in (0, 1, 2)], [3, 0, 2])
        self.assertEqual([houses.under_way(house) for house in (0, 2)], [(3, 5), (2, 3)])

    def test_uncut(self):
        for house in (0, 2):
            houses = houses_over((0, 0, (1, 5, 0, 2), 1), TOLD, {0: (0, 1, 2, 3), 2: (0, 2, 3, 5), 1: (0,)})
            self.assertEqual(houses.uncut(house), 2)
            self.assertEqual(houses.cuts(), (0, 0, 0, 1))
            self.assertEqual((houses.under_way(0), houses.heard(0), len(houses)), ((1, 4, 5), 1, 2))
            houses.hear(0, 1)
            self.assertEqual(houses.heard(0), 4)
            self.refused(NoHouse, houses.hear, 2, 0)

    def test_cut_and_uncut_again(self):
        houses, other = houses_over(FOUR, TOLD, {7: (0, 3)}), houses_over(FOUR, TOLD, {7: (0, 3)})
        self.assertEqual(houses.cut(7, 0, -5), 0)
        self.assertFalse(houses == other)
        self.assertEqual(houses.uncut(0), 0)
        self.assertTrue(houses == other)
        self.assertEqual(houses.cut(7, 0, -5), 0)
        houses.hear(0, 1)
        houses.hear(7, 2)
        self.assertEqual(houses.uncut(7), 0)
        self.assertTrue(houses == other)

    def test_refused(self):
        houses = houses_over(FOUR, TOLD, {7: (0, 1)})
        ahead = state(houses)
        for thing in NO_HOUSES:
            self.assertIs(self.refused(NoHouse, houses.cut, thing, 0, 5).house, thing)
            self.assertIs(self.refused(NoHouse, houses.cut, thing, None, None).house, thing)
        for thing in NO_AXES:
            self.refused(NoCut, houses.cut, 7, thing, -5)
        for thing in NO_AT + [0, 1]:
            self.refused(NoCut, houses.cut, 7, 0, thing)
        self.assertEqual(state(houses), ahead)
        three = houses_over(THREE, TOLD)
        self.refused(NoCut, three.uncut, 0)
        self.refused(NoCut, Houses().uncut, 0)
        self.assertEqual(three, houses_over(THREE, TOLD))
        many = Houses()
        self.assertEqual([many.cut(0, 0, -number) for number in range(6)], [1, 2, 3, 4, 5, 6])
        cuts = many.cuts()
        self.refused(TooMany, many.cut, 0, 0, -6)
        self.refused(NoCut, many.cut, 0, 0, -5)
        self.assertEqual((many.cuts(), len(many)), (cuts, 7))
        self.assertEqual([many.cut(house, 1, 0) for house in (1, 2, 3, 4, 5)], [7, 8, 9, 10, 11])
        self.assertEqual([many.cut(house, 1, -5) for house in (1, 2, 3, 4)], [12, 13, 14, 15])
        self.refused(TooMany, many.cut, 1, 1, -9)
        self.assertEqual(len(many), 16)


class BooksTest(Calls, unittest.TestCase):

    def test_book_of(self):
        houses = houses_over(THREE, TOLD)
        # The first comes into the middle at 5, whatever stands later, and into the upper one at 15.
        wanted = {0: [0, 2, 4, 5], 1: [0, 1, 2, 4, 5], 2: [0, 2, 3, 4, 5]}
        for house, whole in wanted.items():
            told = self.told(houses.book_of, house)
            kept_rows = [telling if number in whole else telling[:3] + (None, (0, 0)) for number, telling in enumerate(TOLD)]
            self.assertEqual(told, Book(kept_rows))
            for number in range(7):
                self.assertEqual(self.told(houses.book_of, house, number=number), Book(kept_rows[:number]))
            for thing in NO_COUNTS + [7]:
                self.assertIs(self.refused(NoNumber, houses.book_of, house, number=thing).number, thing)
        self.assertEqual(houses.book(), Book(TOLD))

    def test_only_what_is_heard(self):
        houses = houses_over(THREE, TOLD, {0: (0, 1, 2, 4), 1: (1, 2, 3)})
        self.assertEqual([len(houses.book_of(house)) for house in (0, 1, 2)], [3, 0, 0])
        self.refused(NoNumber, houses.book_of, 0, number=4)
        self.assertEqual(houses.book_of(0, number=3), houses.book_of(0))
        self.refused(NoNumber, houses.book_of, 1, number=1)
        self.assertEqual(houses.book_of(1, number=0), Book())

    def test_just_where_a_row_comes_in(self):
        # From 5 on the row goes away; ahead of its moment it would have been in, and that does not count.
        for telling, houses in [(row("a", 5, dot(0, 0), (1, 0)), [1, 2]), (row("a", 5, dot(0, 0), (-1, 0)), [0, 1]),
                                (row("a", 5, dot(9, 0), (1, 0)), [1, 2]), (row("a", 5, dot(10, 0), (1, 0)), [2]),
                                (row("a", 5, dot(10, 0), (-1, 0)), [0, 1, 2]), (row("a", 5, dot(0, 0)), [1]),
                                (row("a", END, dot(9, 0), (10 ** 6, 0)), [1]), (row("a", END - 1, dot(9, 0), (1, 0)), [1, 2]),
                                (row("a", END - 1, dot(-2, 0), (1, 0)), [0]), (row("a", END - 2, dot(-2, 0), (1, 0)), [0, 1]),
                                (row("a", 0, ((-5, 0), (12, 0))), [0, 1, 2]), (row("a", 0, ((-5, 0), (-1, 0))), [0]),
                                (row("a", 3, None), [])]:
            found = houses_over(THREE, [telling])
            for house in (0, 1, 2):
                wanted = telling if house in houses else telling[:3] + (None, (0, 0))
                self.assertEqual(found.book_of(house).told(), (wanted,), (telling, house))

    def test_gathered(self):
        houses = houses_over(THREE, TOLD, {0: (0, 1, 2, 3, 4), 1: (0, 1, 2), 2: range(6)})
        self.assertEqual(self.told(houses.gathered, (0,)), houses.book_of(0))
        self.assertEqual(self.told(houses.gathered, (2, 0)), Book([TOLD[0], row("b", 0, None), *TOLD[2:5]]))
        for some in [(0, 1), (1, 0), (1, 0, 1, 1), (0, 1, 2), (2, 1, 0)]:
            self.assertEqual(self.told(houses.gathered, some), Book(TOLD[:3]))
            for number in range(4):
                self.assertEqual(self.told(houses.gathered, some, number=number), Book(TOLD[:number]))
            for thing in NO_COUNTS + [4]:
                self.assertIs(self.refused(NoNumber, houses.gathered, some, number=thing).number, thing)
        self.assertEqual(houses.gathered((2, 2), number=6), houses.book_of(2))

    def test_gathered_refused(self):
        houses = houses_over(THREE, TOLD)
        for thing in ANYTHING + [THREE, FOUR]:
            if type(thing) is not tuple or thing == ():
                self.assertIs(self.refused(NoHouse, houses.gathered, thing).house, thing)
                self.assertIs(self.refused(NoHouse, houses.gathered, thing, number=-1).house, thing)
        for thing in [None, 3, -1, True, False, "0", (0,), [0], {}, SIXTY]:
            for some in [(thing,), (0, thing), (thing, 0), (0, 1, thing, None)]:
                self.assertIs(self.refused(NoHouse, houses.gathered, some).house, thing)
                self.assertIs(self.refused(NoHouse, houses.gathered, some, number="no").house, thing)

    def test_by_chance(self):
        chances = chance(120)
        for _ in range(60):
            cuts, told = some_cuts(chances, chances.randint(1, 9)), some_tellings(chances, chances.randint(0, 14))
            houses = houses_over(cuts, told, {house: chances.sample(range(len(told)), chances.randint(0, len(told)))
                                              for house in houses_in(cuts)})
            for house in houses_in(cuts):
                self.assertEqual(houses.book_of(house).told(), tuple(kept(told, cuts, [house]))[:houses.heard(house)])
            some = tuple(chances.choices(houses_in(cuts), k=chances.randint(1, 4)))
            number = min(houses.heard(house) for house in some)
            self.assertEqual(houses.gathered(some).told(), tuple(kept(told, cuts, some))[:number])
            everything = houses_over(cuts, told).gathered(tuple(houses_in(cuts)))
            self.assertEqual(everything, Book(told))


class AskedCase(Calls, unittest.TestCase):

    def asked(self, houses, question, stretch=STRETCH, number=None):
        """What is told is the plain book's timeline as of the number, and nothing changes."""
        before = state(houses)
        told = self.told(houses.asked, question, stretch, number=number)
        self.assertEqual(state(houses), before)
        as_of, some, left, steps = told
        self.assertEqual(steps, timeline(houses.book().as_of(as_of), question, stretch))
        self.assertEqual(sorted([*some, *[house for house, _ in left]]), sorted(houses_in(houses.cuts())))
        self.assertEqual((list(some), list(left)), (sorted(some), sorted(left)))
        least = min(houses.heard(house) for house in some)
        self.assertTrue(as_of == least if number is None else as_of == number <= least)
        return told


class AskedTest(AskedCase):

    def test_which_houses_by_side(self):
        houses = houses_over(FOUR, TOLD)
        for word in ("touching", "within", "holding"):
            for ring, some, left in [(dot(0, 0), (99,), ((3, 1), (7, 1), (12, 2))), (dot(-1, -1), (7,), ((3, 2), (12, 0), (99, 0))),
                                     (dot(-1, 0), (3,), ((7, 3), (12, 0), (99, 0))), (dot(0, 10), (12,), ((3, 1), (7, 1), (99, 3))),
                                     (((-1, 0), (0, 10)), (3, 12, 99), ((7, 3),)), (((-1, -1), (0, 10)), (3, 7, 12, 99), ()),
                                     (((0, 9), (5, 10)), (12, 99), ((3, 1), (7, 1)))]:
                told = self.asked(houses, (word, ring))
                self.assertEqual(told[:3], (6, some, left), (word, ring))

    def test_which_houses_by_tile(self):
        houses = houses_over(FOUR, TOLD)
        for tile, some, left in [((0, 0, 0), (99,), ((3, 1), (7, 1), (12, 2))), ((0, -1, -1), (7,), ((3, 2), (12, 0), (99, 0))),
                                 ((4, 0, 0), (12, 99), ((3, 1), (7, 1))), ((3, 0, 1), (12, 99), ((3, 1), (7, 1))),
                                 ((3, -1, 0), (3,), ((7, 3), (12, 0), (99, 0))), ((1, 0, 5), (12,), ((3, 1), (7, 1), (99, 3))),
                                 ((1, 0, 4), (99,), ((3, 1), (7, 1), (12, 2))), ((30, 0, 0), (12, 99), ((3, 1), (7, 1)))]:
            self.assertEqual(self.asked(houses, ("count",) + tile)[:3], (6, some, left), tile)

    def test_pairs_ask_all(self):
        houses = houses_over(FOUR, TOLD, {7: range(4), 3: range(6), 99: range(5), 12: range(6)})
        for question in [("meets",), ("close", 0), ("close", 10 ** 9)]:
            self.assertEqual(self.asked(houses, question)[:3], (4, (3, 7, 12, 99), ()))

    def test_the_number_told(self):
        houses = houses_over(THREE, TOLD, {0: (0, 1, 2, 4), 1: range(6), 2: (0, 2)})
        question = ("touching", dot(5, 5))
        self.assertEqual(self.asked(houses, question)[0], 6)
        self.assertEqual(self.asked(houses, ("touching", ((-1, 5), (5, 5))))[0], 3)
        self.assertEqual(self.asked(houses, ("touching", ((-1, 5), (15, 5))))[0], 1)
        for number in range(7):
            self.assertEqual(self.asked(houses, question, number=number)[0], number)
        self.assertEqual(self.asked(houses, ("touching", ((-1, 5), (5, 5))), number=2)[0], 2)
        for thing in NO_COUNTS + [7]:
            self.assertIs(self.refused(NoNumber, houses.asked, question, STRETCH, number=thing).number, thing)
        self.assertEqual(self.refused(NoNumber, houses.asked, ("touching", ((-1, 5), (5, 5))), STRETCH, number=4).number, 4)
        self.assertEqual(self.refused(NoNumber, houses.asked, ("meets",), STRETCH, number=2).number, 2)
        self.assertEqual(self.asked(houses, ("count", 0, 0, 0), number=5)[:2], (5, (1,)))

    def test_refused(self):
        houses = houses_over(THREE, TOLD)
        ahead = state(houses)
        for thing in NO_QUESTIONS:
            self.refused(NoQuestion, houses.asked, thing, STRETCH)
            self.refused(NoQuestion, houses.asked, thing, None, number=-1)
        for question in QUESTIONS:
            for thing in NO_SPELLS:
                self.refused(NoSpell, houses.asked, question, thing)
                self.refused(NoSpell, houses.asked, question, thing, number=-1)
            for thing in NO_COUNTS:
                self.assertIs(self.refused(NoNumber, houses.asked, question, STRETCH, number=thing).number, thing)
        self.assertEqual(state(houses), ahead)

    def test_whatever_is_under_way(self):
        # The row that makes the touch is under way to a house that isn't asked, and to one that is.
        told = [row("a", 0, dot(5, 5))]
        houses = houses_over(THREE, told, {1: (0,)})
        self.assertEqual(self.asked(houses, ("touching", dot(5, 5))), (1, (1,), ((0, 1), (2, 0)), ((STRETCH, ("a",)),)))
        self.assertEqual(self.asked(houses, ("touching", ((5, 5), (10, 5)))), (0, (1, 2), ((0, 1),), ((STRETCH, ()),)))


class AskedNearestTest(AskedCase):

    def nearest(self, houses, ring, many, stretch=STRETCH, number=None):
        """Houses are taken in their order, none too few, none too many."""
        question = ("nearest", ring, many)
        as_of, some, left, steps = self.asked(houses, question, stretch, number)
        cuts, told = houses.cuts(), houses.book().told()
        order = sorted(houses_in(cuts), key=lambda house: (gap_to(region_by_path(cuts, house), ring), house))
        gaps = [gap_to(region_by_path(cuts, house), ring) for house in order]
        self.assertEqual(sorted(order[:len(some)]), list(some))
        self.assertEqual(left, tuple(sorted(zip(order[len(some):], gaps[len(some):]))))
        for taken in range(1, len(some) + 1):
            number_then = number if number is not None else min(houses.heard(house) for house in order[:taken])
            mine = kept(told[:number_then], cuts, order[:taken])
            found = timeline(Book(mine), question, stretch)
            enough = taken == len(order) or are_enough(mine, question, found, gaps[taken])
            self.assertIs(enough, taken == len(some), (order[:taken], some))
        self.assertEqual(steps, found)
        return (as_of, some, left)

    def test_one_by_one(self):
        told = [row("a", 0, dot(1, 0)), row("b", 0, dot(8, 0)), row("c", 0, dot(-4, 0)), row("d", 0, dot(30, 0))]
        houses = houses_over(THREE, told)
        self.assertEqual(self.nearest(houses, dot(5, 0), 1), (4, (1,), ((0, 5), (2, 5))))
        # The second one's gap is 4, less than 5.
        self.assertEqual(self.nearest(houses, dot(5, 0), 2), (4, (1,), ((0, 5), (2, 5))))
        self.assertEqual(self.nearest(houses, dot(5, 0), 3), (4, (0, 1, 2), ()))
        self.assertEqual(self.nearest(houses, dot(3, 0), 1), (4, (1,), ((0, 3), (2, 7))))
        self.assertEqual(self.nearest(houses, dot(3, 0), 2), (4, (0, 1), ((2, 7),)))
        # The third one's gap is 7, as much as the last house's gap.
        self.assertEqual(self.nearest(houses, dot(3, 0), 3), (4, (0, 1, 2), ()))
        self.assertEqual(self.nearest(houses, dot(-1, 0), 1), (4, (0, 1), ((2, 11),)))
        self.assertEqual(self.nearest(houses, dot(20, 0), 1), (4, (1, 2), ((0, 20),)))
        self.assertEqual(self.nearest(houses, dot(29, 0), 1), (4, (2,), ((0, 29), (1, 19))))
        self.assertEqual(self.nearest(houses, dot(29, 0), 12), (4, (0, 1, 2), ()))

    def test_ties_by_number(self):
        told = [row("a", 0, dot(5, 0)), row("b", 0, dot(-7, 0)), row("c", 0, dot(17, 0))]
        for cuts, wanted in [((0, 0, 0, (0, 10, 1, 2)), (0, 1, 2)), ((0, 0, 9, (0, 10, 1, 2)), (1, 2, 9))]:
            self.assertEqual(self.nearest(houses_over(cuts, told), dot(5, 0), 2)[1], wanted)
        # Of two houses as near the one with the less number is taken ahead; it shows that the other isn't needed.
        cuts = (0, 0, 9, (0, 10, 1, (0, 40, 2, 3)))
        self.assertEqual(self.nearest(houses_over(cuts, told), dot(5, 0), 3)[:2], (3, (1, 2, 9)))
        near = [row("a", 0, dot(5, 0)), row("b", 0, dot(-1, 0)), row("c", 0, dot(10, 0))]
        self.assertEqual(self.nearest(houses_over(cuts, near), dot(5, 0), 1)[1], (1,))
        self.assertEqual(self.nearest(houses_over(cuts, near), dot(5, 0), 2)[1], (1, 2, 9))

    def test_a_tie_that_tells_the_number(self):
        # By both tellings the thing is nowhere; the house of the less number has heard just the first one.
        told = [row("a", 0, dot(5, 0)), row("a", 0, None)]
        for cuts, late, wanted in [((0, 0, 9, (0, 10, 1, 2)), 2, (1, (1, 2), ((9, 5),))),
                                   ((0, 0, 9, (0, 10, 1, 2)), 9, (1, (1, 2, 9), ())),
                                   ((0, 0, 0, (0, 10, 1, 2)), 0, (1, (0, 1), ((2, 5),)))]:
            houses = houses_over(cuts, told, {house: (0,) if house == late else (0, 1) for house in houses_in(cuts)})
            self.assertEqual(self.nearest(houses, dot(5, 0), 1), wanted)

    def test_a_ring_over_several_houses(self):
        told = [row("a", 0, dot(5, 0)), row("b", 0, dot(20, 0)), row("c", 0, dot(-20, 0))]
        houses = houses_over(THREE, told)
        self.assertEqual(self.nearest(houses, ((-1, 0), (5, 0)), 1), (3, (0, 1), ((2, 5),)))
        self.assertEqual(self.nearest(houses, ((-1, 0), (15, 0)), 1), (3, (0, 1, 2), ()))
        self.assertEqual(self.nearest(houses, ((0, 0), (10, 0)), 1), (3, (0, 1, 2), ()))
        self.assertEqual(self.nearest(houses, ((0, 0), (9, 0)), 1), (3, (0, 1), ((2, 1),)))
        self.assertEqual(self.nearest(houses, ((1, 0), (9, 0)), 1), (3, (1,), ((0, 1), (2, 1))))

    def test_at_each_moment(self):
        # From 5 on the thing is farther than the next houses, or just as far at 5.
        told = [row("a", 0, dot(4, 5), (0, 1))]
        houses = houses_over(THREE, told)
        for ways, some in [((True, True), (0, 1, 2)), ((True, False), (1,))]:
            self.assertEqual(self.nearest(houses, dot(5, 5), 1, of(0, 5, ways))[1], some)
        self.assertEqual(self.nearest(houses, dot(5, 5), 1, of(5, 6, (False, True)))[1], (0, 1, 2))
        self.assertEqual(self.nearest(houses, dot(5, 5), 1, of(4, 4))[1], (1,))
        # It is nowhere at one moment alone.
        gone = told + [row("a", 3, None), row("a", 4, dot(4, 5))]
        self.assertEqual(self.nearest(houses_over(THREE, gone), dot(5, 5), 1, of(0, 3, (True, False)))[1], (1,))
        self.assertEqual(self.nearest(houses_over(THREE, gone), dot(5, 5), 1, of(0, 3))[1], (0, 1, 2))
        self.assertEqual(self.nearest(houses_over(THREE, gone), dot(5, 5), 1, of(4, 9))[1], (1,))

    def test_the_number_told_of_nearest(self):
        told = [row("a", 0, dot(1, 0)), row("b", 0, dot(8, 0)), row("a", 0, dot(4, 0))]
        houses = houses_over(THREE, told, {1: (0, 1, 2), 0: (0,), 2: ()})
        # By all three tellings the first house is enough; the others' letters do not matter.
        self.assertEqual(self.nearest(houses, dot(5, 0), 1), (3, (1,), ((0, 5), (2, 5))))
        self.assertEqual(self.nearest(houses, dot(5, 0), 2), (3, (1,), ((0, 5), (2, 5))))
        self.assertEqual(self.nearest(houses, dot(5, 0), 2, number=2), (2, (1,), ((0, 5), (2, 5))))
        # As of 1 there is just one name, so all houses are needed, and one of them has not heard so much.
        self.assertEqual(self.refused(NoNumber, houses.asked, ("nearest", dot(5, 0), 2), STRETCH, number=1).number, 1)
        self.assertEqual(self.nearest(houses, dot(5, 0), 2, number=0), (0, (0, 1, 2), ()))
        self.assertEqual(self.nearest(houses, dot(5, 0), 3), (0, (0, 1, 2), ()))
        self.assertEqual(self.nearest(houses, dot(-2, 0), 1), (1, (0, 1), ((2, 12),)))
        houses.hear(2, 0)
        self.assertEqual(self.nearest(houses, dot(5, 0), 2, number=1)[:2], (1, (0, 1, 2)))
        self.assertEqual(self.refused(NoNumber, houses.asked, ("nearest", dot(5, 0), 3), STRETCH, number=2).number, 2)
        # Of a house that is not taken it does not matter that it has not heard the wished number.
        self.assertEqual(self.nearest(houses, dot(5, 0), 1, number=3), (3, (1,), ((0, 5), (2, 5))))

    def test_nearest_by_chance(self):
        chances = chance(121)
        sizes = {}
        for _ in range(120):
            cuts, told = some_cuts(chances, chances.randint(1, 6), 9), some_tellings(chances, 12, 8, 1)
            houses = houses_over(cuts, told, {house: range(chances.randint(8, 12)) for house in houses_in(cuts)})
            some = self.nearest(houses, dot(chances.randint(-9, 9), chances.randint(-9, 9)), chances.randint(1, 3),
                                some_stretch(chances))[1]
            sizes[len(houses) - len(some)] = True
        self.assertGreater(len(sizes), 2)

    def test_all_questions_by_chance(self):
        chances = chance(122)
        for _ in range(50):
            cuts, told = some_cuts(chances, chances.randint(1, 8)), some_tellings(chances, chances.randint(0, 14))
            order = [(house, number) for house in houses_in(cuts) for number in range(len(told))]
            chances.shuffle(order)
            houses = houses_over(cuts, told, {})
            for house, number in order[:chances.randint(0, len(order))]:
                houses.hear(house, number)
            stretch = some_stretch(chances)
            for question in some_questions(chances):
                as_of, some, left, steps = self.asked(houses, question, stretch)
                self.assertTrue(answers_alike(told[:as_of], question, steps, [Fraction(k, 3) for k in range(0, 45, 2)]))
                self.assertEqual(steps, timeline(houses.gathered(some, number=as_of), question, stretch))
                self.look_at_left(cuts, question, left)

    def look_at_left(self, cuts, question, left):
        if question[0] in ("touching", "within", "holding"):
            for house, why in left:
                self.assertEqual(why, first_side(region_by_path(cuts, house), question[1]))
        if question[0] == "nearest":
            for house, why in left:
                self.assertEqual(why, gap_to(region_by_path(cuts, house), question[1]))
        self.assertTrue(not left or question[0] not in ("meets", "close"))
        self.assertTrue(all(type(why) is int for _, why in left))


if __name__ == "__main__":
    unittest.main()
