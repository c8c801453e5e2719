"""Points 1, 19: shares of steps and back, firsts, and joins of what meets or comes close."""

import unittest
from fractions import Fraction

from books import END, answer_at, row, some_tellings
from shapes import SQUARE, as_number, as_pair
from test_lines import NO_SPELLS, WAYS, of
from test_papers import some_stretch
from things import ANYTHING, Calls, chance, otherwise
from wherewhen.books.book import Book
from wherewhen.errors import NoNumber, NoShares, NoSpell, NoSteps
from wherewhen.joins.joins import firsts, joined
from wherewhen.joins.shares import are_shares, firsts_of, shares_of, steps_by
from wherewhen.numbers.spells import has, together
from wherewhen.numbers.steps import are_steps, steps_of, stretch_of
from wherewhen.papers.finder import timeline

STRETCH = of(0, 9)
EARLY, LATE = of(0, 4, (True, False)), of(4, 9)
STEPS = ((EARLY, ("b", "a")), (of(4, 4), ("c", "a")), (of(4, 6, (False, False)), ()), (of(6, 9), ("b",)))
SHARES = (("a", (of(0, 4),)), ("b", (EARLY, of(6, 9))), ("c", (of(4, 4),)))
PAIRS = ((("a", "b"), (EARLY,)), (("a", "c"), (of(4, 4), of(5, 9))))
NO_FARS = [-1, 10 ** 9 + 1, True, False, "0", (0, 1), [0], {}]


class SharesTest(Calls, unittest.TestCase):

    def test_are_shares(self):
        for thing in [(), SHARES, PAIRS, SHARES[1:], (("a", (of(0, 4, (False, False)), of(4, 9, (False, True)))),)]:
            self.assertIs(self.truth(are_shares, thing), True)

    def test_nearly_shares(self):
        for thing in [SHARES[::-1], SHARES + SHARES[2:], SHARES[:1] + PAIRS[1:], list(SHARES), PAIRS[::-1],
                      (("a", ()),), (("a", None),), (("a", [EARLY]),), (("a", EARLY),), (("A", (EARLY,)),), ((0, (EARLY,)),),
                      (("a", (EARLY, LATE)),), (("a", (EARLY, of(3, 9))),), (("a", (LATE, EARLY)),), (("a", (EARLY, EARLY)),),
                      (("a", (of(0, 4), of(4, 9, (False, True)))),), (("a", (EARLY,), 0),), (["a", (EARLY,)],), (("a",),),
                      ((("b", "a"), (EARLY,)),), ((("a", "a"), (EARLY,)),), ((["a", "b"], (EARLY,)),),
                      ((("a", "b", "c"), (EARLY,)),), ((("a",), (EARLY,)),), ((("a", "B"), (EARLY,)),), ((("", "b"), (EARLY,)),),
                      (("a", (of(4, 4), of(4, 9, (False, True)))),), {"a": (EARLY,)}, "a", None, 0, True]:
            self.assertIs(self.truth(are_shares, thing), False, thing)
            self.refused(NoShares, firsts_of, thing)
            self.refused(NoShares, steps_by, thing, STRETCH)
            self.refused(NoShares, steps_by, thing, None)

    def test_are_shares_of_anything(self):
        for thing in ANYTHING:
            self.assertIs(self.truth(are_shares, thing), thing == () and type(thing) is tuple)
        for shares in (SHARES, PAIRS):
            for thing in otherwise(shares):
                if self.truth(are_shares, thing):
                    self.assertEqual(shares_of(steps_by(thing, of(0, END))), thing)

    def test_shares_of(self):
        self.assertEqual(self.told(shares_of, STEPS), SHARES)
        self.assertEqual(self.told(shares_of, ((STRETCH, ()),)), ())
        self.assertEqual(self.told(shares_of, ((STRETCH, ("b", "a")),)), (("a", (STRETCH,)), ("b", (STRETCH,))))
        steps = ((EARLY, (("a", "b"),)), (LATE, (("a", "c"), ("a", "b"))))
        self.assertEqual(self.told(shares_of, steps), ((("a", "b"), (STRETCH,)), (("a", "c"), (LATE,))))

    def test_shares_of_refused(self):
        for thing in ANYTHING + [(), list(STEPS), STEPS[::-1], STEPS[:1] + STEPS[2:]]:
            if not are_steps(thing):
                self.refused(NoSteps, shares_of, thing)
        for told in [None, 0, 3, True, "a", "ab", ["a"], {"a": 0}, ("A",), (0,), ("a", "a"), ("a", ("a", "b")), (("b", "a"),),
                     (("a", "a"),), (("a", "b"), ("a", "b")), (("a", "b", "c"),), (None,), ((),), (["a", "b"],), ("",), (["a"],),
                     ("a", "b", "a"), ("abcdefghi",)]:
            self.refused(NoSteps, shares_of, ((STRETCH, told),))
            self.refused(NoSteps, shares_of, ((EARLY, ()), (LATE, told)))
        self.refused(NoSteps, shares_of, ((EARLY, ("a",)), (LATE, (("a", "b"),))))
        self.refused(NoSteps, shares_of, ((EARLY, (("a", "b"),)), (of(4, 6), ()), (of(6, 9, (False, True)), ("a",))))

    def test_steps_by(self):
        rising = tuple((spell, tuple(sorted(told))) for spell, told in STEPS)
        self.assertEqual(self.told(steps_by, SHARES, STRETCH), rising)
        self.assertEqual(self.told(steps_by, (), STRETCH), ((STRETCH, ()),))
        self.assertEqual(self.told(steps_by, (), of(3, 3)), ((of(3, 3), ()),))
        wanted = ((EARLY, (("a", "b"),)), (of(4, 4), (("a", "c"),)), (of(4, 5, (False, False)), ()), (of(5, 9), (("a", "c"),)),
                  (of(9, 12, (False, True)), ()))
        self.assertEqual(self.told(steps_by, PAIRS, of(0, 12)), wanted)
        both = (("a", (of(0, 4),)), ("b", (of(4, 9, (False, True)),)))
        self.assertEqual(self.told(steps_by, both, STRETCH), ((of(0, 4), ("a",)), (of(4, 9, (False, True)), ("b",))))

    def test_steps_by_refused(self):
        for stretch in [of(0, 9, (False, True)), of(0, 9, (True, False)), of(1, 9), of(0, 8), of(4, 4), of(20, 30)]:
            self.refused(NoShares, steps_by, SHARES, stretch)
        self.refused(NoShares, steps_by, PAIRS, of(0, 8))
        self.assertEqual(stretch_of(steps_by(PAIRS, of(0, 9, (True, True)))), STRETCH)
        for thing in NO_SPELLS:
            self.refused(NoSpell, steps_by, SHARES, thing)
            self.refused(NoSpell, steps_by, (), thing)

    def test_firsts_of(self):
        self.assertEqual(self.told(firsts_of, SHARES), (((0, 1), "a"), ((0, 1), "b"), ((4, 1), "c")))
        self.assertEqual(self.told(firsts_of, PAIRS), (((0, 1), ("a", "b")), ((4, 1), ("a", "c"))))
        self.assertEqual(self.told(firsts_of, ()), ())
        open_first = (("a", (of(2, 4, (False, True)), of(6, 9))), ("b", (of(7, 9),)), ("c", (of(0, 1, (False, False)),)))
        self.assertEqual(self.told(firsts_of, open_first), (((7, 1), "b"),))

    def test_firsts_by_worth(self):
        moments = [(1, 2), (1, 3), (2, 3), (3, 7), (10, 1), (1, 10 ** 40), (9, 1), (0, 1)]
        names = "hgfedcba"
        shares = tuple((name, ((moment, True, (20, 1), True),)) for name, moment in sorted(zip(names, moments)))
        told = self.told(firsts_of, shares)
        self.assertEqual([moment for moment, name in told], [as_pair(one) for one in sorted(Fraction(*m) for m in moments)])
        self.assertEqual({name: moment for moment, name in told}, dict(zip(names, moments)))

    def test_there_and_back_by_chance(self):
        chances = chance(90)
        for count in range(300):
            things = ["a", "b", "cd", "d"] if count % 2 else [("a", "b"), ("a", "c"), ("b", "c")]
            cuts = sorted(chances.sample(range(0, 30), k=chances.randint(2, 6)))
            pairs, with_begin = [], chances.choice([True, False])
            for begin, end in zip(cuts, cuts[1:]):
                with_end = chances.choice([True, False])
                told = tuple(thing for thing in things if chances.random() < 0.5)
                pairs.append(((as_pair(Fraction(begin, 3)), with_begin, as_pair(Fraction(end, 3)), with_end), told))
                with_begin = not with_end
            steps = steps_of(pairs)
            shares = self.told(shares_of, steps)
            self.assertTrue(are_shares(shares))
            self.assertEqual(steps_by(shares, stretch_of(steps)), steps)
            for thing in things:
                mine = dict(shares).get(thing, ())
                self.assertEqual(mine, together([spell for spell, told in steps if thing in told]))
            shuffled = tuple((spell, tuple(chances.sample(told, k=len(told)))) for spell, told in steps)
            self.assertEqual(shares_of(shuffled), shares)


class JoinsTest(Calls, unittest.TestCase):

    TOLD = [row("b", 0, ((0, 0), (2, 0), (2, 2), (0, 2)), (1, 0)), row("a", 0, ((10, 0), (12, 0), (12, 2), (10, 2))),
            row("c", 0, ((90, 0),)), row("d", 6, ((4, 9),), (1, -1)), row("b", 11, None), row("b", 20, ((11, 1),))]

    def test_joined(self):
        # The two touch from 8 on till the one is nowhere, and again; the corner comes to the others at 13 and goes.
        wanted = ((("a", "b"), (of(8, 11, (True, False)), of(20, 40))), (("a", "d"), (of(13, 14),)))
        self.assertEqual(self.told(joined, Book(self.TOLD), of(0, 40)), wanted)
        self.assertEqual(self.told(joined, Book(self.TOLD), of(9, 10)), ((("a", "b"), (of(9, 10),)),))
        self.assertEqual(self.told(joined, Book(self.TOLD), of(0, 8, (True, False))), ())
        self.assertEqual(self.told(joined, Book(self.TOLD).as_of(3), of(0, 40)), ((("a", "b"), (of(8, 12),)),))

    def test_joined_by_far(self):
        book = Book(self.TOLD)
        self.assertEqual(self.told(joined, book, of(0, 9), far=3), ((("a", "b"), (of(5, 9),)),))
        self.assertEqual(joined(book, of(0, 40), far=None), joined(book, of(0, 40)))
        self.assertEqual(self.told(joined, book, of(0, 1), far=0), ())
        self.assertEqual([pair for pair, moments in joined(book, of(0, 40), far=10 ** 9)],
                         [("a", "b"), ("a", "c"), ("a", "d"), ("b", "c"), ("b", "d"), ("c", "d")])

    def test_firsts(self):
        book = Book(self.TOLD)
        self.assertEqual(self.told(firsts, book, of(0, 40)), (((8, 1), ("a", "b")), ((13, 1), ("a", "d"))))
        wanted = (((5, 1), ("a", "b")), ((10, 1), ("a", "d")), ((10, 1), ("b", "d")))
        self.assertEqual(self.told(firsts, book, of(0, 40), far=3), wanted)
        self.assertEqual(self.told(firsts, book, of(9, 40, (False, True))), (((13, 1), ("a", "d")),))
        self.assertEqual(self.told(firsts, book, of(0, 8)), (((8, 1), ("a", "b")),))
        self.assertEqual(self.told(firsts, book, of(0, 7)), ())

    def test_touch_once_again_never(self):
        told = [row("a", 0, ((0, 4),), (1, -1)), row("b", 0, ((4, 0),)), row("a", 10, ((9, 9),), (-1, -1)), row("b", 12, ((5, 5),))]
        self.assertEqual(self.told(joined, Book(told), of(0, 40)), ((("a", "b"), (of(4, 4), of(14, 14))),))
        self.assertEqual(self.told(firsts, Book(told), of(0, 40)), (((4, 1), ("a", "b")),))
        self.assertEqual(self.told(firsts, Book(told), of(4, 40, (False, True))), (((14, 1), ("a", "b")),))
        self.assertEqual(self.told(joined, Book(told), of(4, 14, (False, False))), ())

    def test_by_chance(self):
        chances = chance(91)
        for _ in range(60):
            told, stretch, far = some_tellings(chances, 10, names=5), some_stretch(chances), chances.choice([None, 0, 2])
            book, question = Book(told), ("meets",) if far is None else ("close", far)
            shares = self.told(joined, book, stretch, far=far)
            self.assertTrue(are_shares(shares))
            self.assertEqual(shares, shares_of(timeline(book, question, stretch)))
            self.assertEqual(steps_by(shares, stretch), timeline(book, question, stretch))
            self.assertEqual(self.told(firsts, book, stretch, far=far), firsts_of(shares))
            for moment in [Fraction(k, 2) for k in range(0, 29)]:
                if has(stretch, as_pair(moment)):
                    inside = [pair for pair, moments in shares if any(has(spell, as_pair(moment)) for spell in moments)]
                    self.assertEqual(tuple(inside), answer_at(told, question, moment))

    def test_refused(self):
        book = Book(self.TOLD)
        for function in (joined, firsts):
            for thing in NO_SPELLS:
                self.refused(NoSpell, function, book, thing)
                self.refused(NoSpell, function, book, thing, far=-1)
            for thing in NO_FARS:
                self.assertIs(self.refused(NoNumber, function, book, STRETCH, far=thing).number, thing)
            with self.assertRaises(TypeError):
                function(book, STRETCH, 3)


if __name__ == "__main__":
    unittest.main()
