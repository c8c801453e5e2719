"""Points 1, 2, 25, 26: keepers, what is kept, how often it is reckoned, what holds, and news."""

import unittest

from books import END, NO_QUESTIONS, NO_TELLINGS, QUESTIONS, answer_at, row, some_questions, some_tellings
from shapes import SQUARE, as_number
from test_blocks import moments_in
from test_lines import NO_SPELLS, WAYS, of
from test_papers import some_stretch
from test_questions import NO_MOMENTS
from test_regions import dot
from things import ANYTHING, SIXTY, Calls, chance
from wherewhen.books.book import Book
from wherewhen.errors import NoKept, NoMoment, NoNumber, NoQuestion, NoSpell, NoTelling, TooMany
from wherewhen.kept.keeper import Keeper
from wherewhen.numbers.spells import has, is_straight, shared
from wherewhen.numbers.steps import answer_in, are_steps, laid_over, stretch_of
from wherewhen.papers.finder import timeline

NO_KEPT = [-1, 1, 20, True, False, None, "0", (0,), [0], {}, SIXTY]
STRETCH = of(0, 20)
AT_ZERO = ("touching", dot(0, 0))


def state(keeper):
    """All that is to be seen of a keeper."""
    numbers = keeper.numbers()
    return (keeper.book().told(), len(keeper), numbers, [keeper.steps_of(number) for number in numbers],
            [keeper.news(number) for number in numbers], [keeper.reckoned(number) for number in numbers])


class NumbersTest(Calls, unittest.TestCase):

    def test_at_first(self):
        book = Book([row("a", 0, dot(0, 0))])
        keeper = Keeper(book)
        self.assertEqual((keeper.book(), keeper.numbers(), len(keeper)), (book, (), 0))
        self.assertEqual(keeper.keep(AT_ZERO, STRETCH), 0)
        self.assertEqual((keeper.steps_of(0), keeper.news(0), keeper.reckoned(0)), (((STRETCH, ("a",)),), (), 1))

    def test_never_given_again(self):
        keeper = Keeper(Book())
        self.assertEqual([keeper.keep(question, STRETCH) for question in QUESTIONS[:3]], [0, 1, 2])
        self.assertIsNone(keeper.drop(2))
        self.assertEqual((keeper.numbers(), len(keeper)), ((0, 1), 2))
        self.assertEqual(keeper.keep(QUESTIONS[2], STRETCH), 3)
        self.refused(NoQuestion, keeper.keep, ("none",), STRETCH)
        self.refused(NoSpell, keeper.keep, QUESTIONS[2], None)
        self.assertEqual(keeper.keep(QUESTIONS[2], STRETCH), 4)
        keeper.drop(0)
        self.assertEqual(keeper.keep(QUESTIONS[0], STRETCH), 5)
        self.assertEqual(keeper.numbers(), (1, 3, 4, 5))
        for function in (keeper.drop, keeper.steps_of, keeper.news, keeper.reckoned):
            self.assertEqual(self.refused(NoKept, function, 2).number, 2)

    def test_twenty_and_twenty_one(self):
        keeper = Keeper(Book())
        self.assertEqual([keeper.keep(AT_ZERO, STRETCH) for _ in range(20)], list(range(20)))
        ahead = state(keeper)
        self.refused(TooMany, keeper.keep, AT_ZERO, STRETCH)
        self.refused(NoSpell, keeper.keep, AT_ZERO, None)
        self.refused(NoQuestion, keeper.keep, None, None)
        self.assertEqual(state(keeper), ahead)
        keeper.drop(7)
        self.assertEqual(keeper.keep(AT_ZERO, STRETCH), 20)
        self.refused(TooMany, keeper.keep, AT_ZERO, STRETCH)

    def test_refused(self):
        keeper = Keeper(Book([row("a", 0, dot(0, 0))]))
        keeper.keep(AT_ZERO, STRETCH)
        keeper.tell(row("a", 4, None))
        ahead = state(keeper)
        for thing in NO_KEPT + ANYTHING:
            if type(thing) is int and thing == 0:
                continue
            for function in (keeper.drop, keeper.steps_of, keeper.news, keeper.reckoned):
                self.assertIs(self.refused(NoKept, function, thing).number, thing)
            self.assertIs(self.refused(NoKept, keeper.holds, thing, None).number, thing)
            self.assertIs(self.refused(NoKept, keeper.news, thing, since=-1).number, thing)
        for thing in NO_QUESTIONS:
            self.refused(NoQuestion, keeper.keep, thing, STRETCH)
            self.refused(NoQuestion, keeper.keep, thing, None)
        for thing in NO_SPELLS:
            self.refused(NoSpell, keeper.keep, AT_ZERO, thing)
        for thing in NO_TELLINGS + [("back", 2)]:
            self.assertEqual(self.refused(NoTelling, keeper.tell, thing).number, 2)
        for thing in [-1, True, False, None, "0", (0, 1), [0], {}, -SIXTY]:
            self.assertIs(self.refused(NoNumber, keeper.news, 0, since=thing).number, thing)
        self.assertEqual(state(keeper), ahead)
        many = Keeper(Book([row("a", number, SQUARE) for number in range(100)]))
        many.keep(AT_ZERO, STRETCH)
        ahead = state(many)
        self.refused(TooMany, many.tell, row("a", 0, None))
        self.assertEqual(state(many), ahead)


class ReckonedTest(Calls, unittest.TestCase):

    def kept(self, told, stretch, more, times):
        """Told more behind those it has, a keeper has reckoned so many times."""
        keeper = Keeper(Book(told))
        keeper.keep(AT_ZERO, stretch)
        for telling in more:
            self.assertIsNone(keeper.tell(telling))
        book = Book([*told, *more])
        self.assertEqual(keeper.book(), book)
        self.assertEqual(keeper.steps_of(0), timeline(book, AT_ZERO, stretch))
        self.assertEqual(keeper.reckoned(0), times)

    def test_once_at_each_telling_that_touches(self):
        stretch = of(3, 6)
        self.kept([], stretch, [], 1)
        self.kept([], stretch, [row("a", 0, None)], 2)
        self.kept([], stretch, [row("a", 7, dot(0, 0))], 1)
        self.kept([], stretch, [row("a", 6, dot(0, 0))], 2)
        # From 0 to the next row alone; and told again; and taken back, first the one that stands, then the other.
        self.kept([row("a", 3, dot(0, 0))], stretch, [row("a", 0, dot(0, 0))], 1)
        self.kept([row("a", 4, dot(0, 0))], stretch, [row("a", 0, dot(0, 0))], 2)
        self.kept([row("a", 3, dot(0, 0))], stretch, [row("a", 3, dot(1, 0))], 2)
        self.kept([row("a", 3, dot(0, 0))], stretch, [row("a", 3, dot(1, 0)), ("back", 1), ("back", 0)], 4)
        self.kept([row("a", 7, dot(0, 0))], stretch, [("back", 0), row("b", 9, dot(0, 0)), ("back", 2)], 1)
        self.kept([row("a", 0, dot(0, 0)), row("a", 2, None)], stretch, [("back", 0), row("a", 1, dot(0, 0))], 1)
        self.kept([row("a", 0, dot(0, 0)), row("a", 2, None)], stretch, [("back", 1)], 2)

    def test_ends_that_are_out(self):
        for ways in WAYS:
            stretch = of(3, 6, ways)
            self.kept([], stretch, [row("a", 6, dot(0, 0))], 2 if ways[1] else 1)
            self.kept([row("a", 3, None)], stretch, [row("a", 0, dot(0, 0))], 1)
            self.kept([row("b", 9, None)], stretch, [row("a", 3, dot(0, 0))], 2)
        self.kept([row("a", 7, None)], of(6, 7, (False, False)), [row("a", 6, dot(0, 0))], 2)
        self.kept([], of(END, END), [row("a", END, dot(0, 0)), row("a", 0, dot(0, 0))], 2)

    def test_each_for_itself(self):
        keeper = Keeper(Book())
        keeper.keep(AT_ZERO, of(0, 5))
        keeper.keep(("meets",), of(4, 9))
        keeper.tell(row("a", 5, dot(0, 0)))
        keeper.tell(row("a", 6, dot(0, 0)))
        self.assertEqual(keeper.keep(AT_ZERO, of(0, 9)), 2)
        keeper.tell(row("a", 2, dot(0, 0)))
        self.assertEqual([keeper.reckoned(number) for number in range(3)], [3, 4, 2])
        keeper.drop(1)
        keeper.tell(row("b", 0, dot(0, 0)))
        self.assertEqual([keeper.reckoned(number) for number in (0, 2)], [4, 3])

    def test_other_keepers_and_books_stay(self):
        book = Book([row("a", 0, dot(0, 0))])
        one, other = Keeper(book), Keeper(book)
        one.keep(AT_ZERO, STRETCH)
        other.keep(AT_ZERO, STRETCH)
        ahead = state(other)
        one.tell(("back", 0))
        self.assertEqual(state(other), ahead)
        self.assertEqual(len(book), 1)
        self.assertEqual(one.book(), Book([row("a", 0, dot(0, 0)), ("back", 0)]))

    def test_holds(self):
        keeper = Keeper(Book([row("a", 0, dot(-4, 0), (1, 0)), row("b", 8, dot(0, 0))]))
        keeper.keep(AT_ZERO, of(1, 9, (False, False)))
        wanted = [((2, 1), (), of(1, 4, (False, False))), ((1, 1), None, None), ((7, 2), (), of(1, 4, (False, False))),
                  ((4, 1), ("a",), of(4, 4)), ((9, 2), (), of(4, 8, (False, False))), ((8, 1), ("b",), of(8, 9, (True, False))),
                  ((17, 2), ("b",), of(8, 9, (True, False))), ((9, 1), None, None), ((0, 1), None, None), ((20, 1), None, None)]
        for moment, told, spell in wanted:
            if spell is None:
                self.assertEqual(self.refused(NoMoment, keeper.holds, 0, moment).moment, moment)
            else:
                self.assertEqual(self.told(keeper.holds, 0, moment), (told, spell))
        for thing in NO_MOMENTS:
            self.assertIs(self.refused(NoMoment, keeper.holds, 0, thing).moment, thing)


class NewsTest(Calls, unittest.TestCase):

    def test_news(self):
        keeper = Keeper(Book([row("a", 0, dot(0, 0))]))
        keeper.keep(AT_ZERO, of(2, 10))
        keeper.tell(row("a", 4, None))
        keeper.tell(row("a", 3, dot(0, 0)))
        keeper.tell(row("b", 0, dot(0, 0)))
        keeper.tell(row("a", 4, dot(0, 0)))
        keeper.tell(("back", 1))
        keeper.tell(("back", 4))
        rows = ((1, of(4, 10), ()), (3, of(2, 4, (True, False)), ("a", "b")), (3, of(4, 10), ("b",)), (4, of(4, 10), ("a", "b")))
        self.assertEqual(self.told(keeper.news, 0), rows)
        self.assertEqual(keeper.reckoned(0), 7)
        for since, wanted in [(0, rows), (1, rows), (2, rows[1:]), (3, rows[1:]), (4, rows[3:]), (5, ()), (SIXTY, ())]:
            self.assertEqual(self.told(keeper.news, 0, since=since), wanted)

    def test_unlike_ones_that_become_one(self):
        # Ahead of it the answers beside one another were unlike; behind it they are one answer.
        keeper = Keeper(Book([row("a", 0, dot(0, 0)), row("a", 5, None), row("a", 7, dot(0, 0))]))
        keeper.keep(AT_ZERO, of(0, 9))
        keeper.tell(row("b", 0, dot(0, 0)))
        self.assertEqual(keeper.news(0), ((3, of(0, 5, (True, False)), ("a", "b")), (3, of(5, 7, (True, False)), ("b",)),
                                          (3, of(7, 9), ("a", "b"))))
        keeper = Keeper(Book([row("a", 0, dot(0, 0)), row("a", 5, dot(9, 0))]))
        keeper.keep(("count", 0, 5, 0), of(0, 9))
        keeper.keep(("nearest", dot(0, 0), 1), of(0, 9))
        keeper.tell(row("a", 0, dot(5, 0)))
        keeper.tell(row("b", 2, dot(5, 0)))
        self.assertEqual(keeper.news(0), ((2, of(0, 5, (True, False)), 1), (3, of(2, 5, (True, False)), 2), (3, of(5, 9), 1)))
        self.assertEqual(keeper.news(1), ((3, of(5, 9), ("b",)),))
        keeper = Keeper(Book([row("a", 2, dot(5, 0)), row("b", 5, dot(5, 0)), row("b", 7, None)]))
        keeper.keep(("nearest", dot(0, 0), 1), of(0, 9))
        keeper.tell(row("c", 0, dot(1, 0)))
        self.assertEqual(keeper.news(0), ((3, of(0, 9), ("c",)),))

    def test_alike_ones_apart_stay_two(self):
        keeper = Keeper(Book([row("b", 0, dot(0, 0)), row("b", 3, None), row("b", 5, dot(0, 0))]))
        keeper.keep(("nearest", dot(0, 0), 1), of(0, 9))
        keeper.tell(row("c", 0, dot(1, 0)))
        self.assertEqual(keeper.news(0), ((3, of(3, 5, (True, False)), ("c",)),))
        keeper.tell(row("a", 0, dot(0, 0)))
        self.assertEqual(keeper.news(0, since=4), ((4, of(0, 9), ("a",)),))
        keeper = Keeper(Book([row("b", 3, dot(0, 0)), row("b", 5, None)]))
        keeper.keep(("nearest", dot(0, 0), 1), of(0, 9))
        keeper.tell(row("c", 0, dot(1, 0)))
        self.assertEqual(keeper.news(0), ((2, of(0, 3, (True, False)), ("c",)), (2, of(5, 9), ("c",))))

    def test_no_news(self):
        keeper = Keeper(Book([row("a", 0, dot(0, 0))]))
        keeper.keep(AT_ZERO, of(0, 9))
        for telling in [row("b", 0, dot(5, 5)), row("a", 3, dot(0, 0)), ("back", 2), row("b", 0, None)]:
            keeper.tell(telling)
            self.assertEqual(keeper.news(0), ())
        self.assertEqual(keeper.reckoned(0), 5)

    def test_by_chance(self):
        chances = chance(150)
        for _ in range(40):
            told = some_tellings(chances, 12, names=4)
            first = chances.randint(0, 6)
            keeper, asked, was = Keeper(Book(told[:first])), {}, {}
            for question in some_questions(chances):
                stretch = some_stretch(chances)
                asked[keeper.keep(question, stretch)] = (question, stretch)
            times = {number: 1 for number in asked}
            for at in range(first, 12):
                was[at] = {number: keeper.steps_of(number) for number in asked}
                keeper.tell(told[at])
                touched = keeper.book().touched(at)
                for number, (question, stretch) in asked.items():
                    times[number] += shared(touched, stretch) is not None
                    self.assertEqual(keeper.steps_of(number), timeline(Book(told[:at + 1]), question, stretch))
                    self.assertEqual(keeper.reckoned(number), times[number])
            for number, (question, stretch) in asked.items():
                self.look_at_news(keeper, number, question, stretch, told, was)

    def look_at_news(self, keeper, number, question, stretch, told, was):
        rows = self.told(keeper.news, number)
        self.assertEqual([telling for telling, _, _ in rows], sorted(telling for telling, _, _ in rows))
        for one, other in zip(rows, rows[1:]):
            if one[0] == other[0]:
                self.assertLessEqual(as_number(one[1][2]), as_number(other[1][0]))
                self.assertTrue(shared(one[1], other[1]) is None)
                self.assertFalse(is_straight(one[1], other[1]) and one[2] == other[2])
        for at, ahead in was.items():
            mine = [row for row in rows if row[0] == at]
            behind = was[at + 1][number] if at + 1 in was else keeper.steps_of(number)
            for moment in moments_in([ahead[number], behind], stretch):
                new = [answer for _, spell, answer in mine if has(spell, moment)]
                changed = answer_in(ahead[number], moment) != answer_in(behind, moment)
                self.assertEqual(new, [answer_in(behind, moment)] if changed else [])
            steps = ahead[number]
            for _, spell, answer in self.told(keeper.news, number, since=at):
                steps = laid_over(steps, ((spell, answer),))
            self.assertEqual(steps, keeper.steps_of(number))
        steps = keeper.steps_of(number)
        self.assertTrue(are_steps(steps))
        self.assertEqual(stretch_of(steps), stretch)
        for moment in moments_in([steps], stretch):
            answer, spell = self.told(keeper.holds, number, moment)
            self.assertEqual(answer, answer_at(told, question, as_number(moment)))
            self.assertIn((spell, answer), steps)
            self.assertTrue(has(spell, moment))


if __name__ == "__main__":
    unittest.main()
