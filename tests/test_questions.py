"""Points 1, 13: questions, and what each is answered at a moment."""

import unittest
from fractions import Fraction

from books import END, LETTERS, NO_QUESTIONS, QUESTIONS, answer_at, row, some_moments, some_questions, some_tellings
from shapes import NO_RINGS, OCTAGON, SQUARE, TRIANGLE, as_pair
from things import ANYTHING, Calls, chance, otherwise
from wherewhen.asks.plain import answer
from wherewhen.asks.questions import is_question
from wherewhen.books.book import Book
from wherewhen.errors import NoMoment, NoQuestion

MOST = 10 ** 9
NO_MOMENTS = [None, 0, True, (0, 2), (-1, 1), (END + 1, 1), [0, 1], "0", (0,), (0, 1, 1), {}]
RING = ((0, 0), (10, 0), (10, 10), (0, 10))


def squares(**places):
    """Squares of side 2 by their left lower corners, from moment 0 on."""
    return [row(name, 0, ((x, y), (x + 2, y), (x + 2, y + 2), (x, y + 2))) for name, (x, y) in places.items()]


class QuestionTest(Calls, unittest.TestCase):

    def test_is_question(self):
        good = QUESTIONS + [("nearest", SQUARE, 1), ("nearest", ((0, 0),), 12), ("close", 0), ("close", MOST),
                            ("count", 0, 0, 0), ("count", 30, MOST, -MOST), ("touching", OCTAGON), ("holding", ((0, 0),))]
        for thing in good:
            self.assertIs(self.truth(is_question, thing), True)
        for thing in NO_QUESTIONS:
            self.assertIs(self.truth(is_question, thing), False, thing)
        for ring in NO_RINGS:
            for thing in [("touching", ring), ("within", ring), ("holding", ring), ("nearest", ring, 1)]:
                self.assertIs(self.truth(is_question, thing), False, thing)

    def test_is_question_of_anything(self):
        for thing in ANYTHING:
            self.assertIs(self.truth(is_question, thing), thing == ("meets",), thing)
        for question in QUESTIONS:
            for thing in otherwise(question):
                told = self.truth(is_question, thing)
                if told:
                    self.assertIs(type(thing), tuple)
                    self.assertIn(thing[0], [question[0] for question in QUESTIONS])
                    answer(Book(), thing, (0, 1))
                else:
                    self.refused(NoQuestion, answer, Book(), thing, (0, 1))

    def test_refused(self):
        book = Book(squares(a=(0, 0)))
        for thing in NO_QUESTIONS:
            self.refused(NoQuestion, answer, book, thing, (0, 1))
            self.refused(NoQuestion, answer, book, thing, None)
        for question in QUESTIONS:
            for thing in NO_MOMENTS:
                self.assertIs(self.refused(NoMoment, answer, book, question, thing).moment, thing)


class AnswerTest(Calls, unittest.TestCase):

    def asked(self, told, question, moment=0):
        found = self.told(answer, Book(told), question, as_pair(moment))
        self.assertEqual(found, answer_at(told, question, Fraction(moment)), (question, moment))
        self.assertIs(type(found), int if question[0] == "count" else tuple)
        return found

    def test_no_things(self):
        for question in QUESTIONS:
            self.assertEqual(self.asked([], question), 0 if question[0] == "count" else ())

    def test_touching(self):
        told = squares(corner=(10, 10), side=(-2, 3), inner=(4, 4), off=(11, 3), high=(10, 11), whole=(0, 0))
        self.assertEqual(self.asked(told, ("touching", RING)), ("corner", "inner", "side", "whole"))
        slope = ((0, 1), (1, 0), (2, 1), (1, 2))
        told = [row("a", 0, slope), row("b", 0, ((2, 0), (3, 0), (3, 1)))]
        self.assertEqual(self.asked(told, ("touching", slope)), ("a",))
        self.assertEqual(self.asked(told, ("touching", ((2, 1),))), ("a",))
        self.assertEqual(self.asked(told, ("touching", ((2, 0), (2, 1)))), ("a", "b"))

    def test_within_and_holding(self):
        told = [row("same", 0, RING), row("inner", 0, SQUARE), row("out", 0, ((0, 0), (11, 0))), row("dot", 0, ((10, 10),)),
                row("outer", 0, ((-1, -1), (22, -1), (-1, 22)))]
        self.assertEqual(self.asked(told, ("within", RING)), ("dot", "inner", "same"))
        self.assertEqual(self.asked(told, ("holding", RING)), ("outer", "same"))
        self.assertEqual(self.asked(told, ("holding", SQUARE)), ("inner", "outer", "same"))
        self.assertEqual(self.asked(told, ("holding", ((10, 10),))), ("dot", "outer", "same"))
        self.assertEqual(self.asked(told, ("within", ((10, 10),))), ("dot",))

    def test_nearest(self):
        told = squares(far=(30, 0), b=(15, 0), a=(0, 15), c=(-7, 4), touch=(10, 0), inner=(3, 3))
        order = ("inner", "touch", "a", "b", "c", "far")
        for many in range(1, 13):
            self.assertEqual(self.asked(told, ("nearest", RING, many)), order[:many])
        told = squares(z=(12, 12), y=(20, 12), b=(12, 20))
        self.assertEqual(self.asked(told, ("nearest", RING, 3)), ("z", "b", "y"))

    def test_nearest_by_parts_of_a_unit(self):
        told = [row("a", 0, ((20, 0),), (-1, 0)), row("b", 0, ((19, 0),), (0, 0))]
        self.assertEqual(self.asked(told, ("nearest", RING, 2), Fraction(1, 2)), ("b", "a"))
        self.assertEqual(self.asked(told, ("nearest", RING, 2), 1), ("a", "b"))
        self.assertEqual(self.asked(told, ("nearest", RING, 2), Fraction(10 ** 30 - 1, 10 ** 30)), ("b", "a"))

    def test_meets_and_close(self):
        told = squares(c=(0, 0), a=(2, 2), b=(5, 2), d=(100, 100))
        self.assertEqual(self.asked(told, ("meets",)), (("a", "c"),))
        self.assertEqual(self.asked(told, ("close", 0)), (("a", "c"),))
        self.assertEqual(self.asked(told, ("close", 1)), (("a", "b"), ("a", "c")))
        self.assertEqual(self.asked(told, ("close", 3)), (("a", "b"), ("a", "c"), ("b", "c")))
        self.assertEqual(len(self.asked(told, ("close", MOST))), 6)
        far = [row("a", 0, ((-MOST, 0),)), row("b", 0, ((0, 0),)), row("c", 0, ((1, 0),))]
        self.assertEqual(self.asked(far, ("close", MOST)), (("a", "b"), ("b", "c")))
        # The boxes share a place, the rings don't.
        told = [row("a", 0, TRIANGLE), row("b", 0, ((5, 2), (6, 2), (6, 3)))]
        self.assertEqual(self.asked(told, ("close", 0)), (("a", "b"),))
        self.assertEqual(self.asked(told, ("meets",)), ())

    def test_close_by_parts_of_a_unit(self):
        told = [row("a", 0, ((0, 0),), (1, 0)), row("b", 0, ((4, 1),))]
        self.assertEqual(self.asked(told, ("close", 3), Fraction(999, 1000)), ())
        self.assertEqual(self.asked(told, ("close", 3), 1), (("a", "b"),))
        self.assertEqual(self.asked(told, ("close", 3), 7), (("a", "b"),))
        self.assertEqual(self.asked(told, ("close", 3), Fraction(7001, 1000)), ())

    def test_count(self):
        dots = {"a": (0, 0), "b": (3, 3), "c": (4, 0), "d": (0, 4), "e": (-1, 0), "f": (-4, -4)}
        told = [row(name, 0, ((x, y), (x + 1, y + 1))) for name, (x, y) in dots.items()]
        self.assertEqual(self.asked(told, ("count", 2, 0, 0)), 2)
        self.assertEqual(self.asked(told, ("count", 2, 1, 0)), 1)
        self.assertEqual(self.asked(told, ("count", 2, 0, 1)), 1)
        self.assertEqual(self.asked(told, ("count", 2, -1, 0)), 1)
        self.assertEqual(self.asked(told, ("count", 2, -1, -1)), 1)
        self.assertEqual(self.asked(told, ("count", 0, 3, 3)), 1)
        self.assertEqual(self.asked(told, ("count", 0, 4, 4)), 0)
        self.assertEqual(self.asked(told, ("count", 30, 0, 0)), 4)
        self.assertEqual(self.asked(told, ("count", 30, -1, -1)), 1)
        self.assertEqual(self.asked(told, ("count", 3, 0, 0)), 4)

    def test_count_at_the_borders(self):
        told = [row("a", 0, ((-1, 2),), (1, 0)), row("b", 0, ((2, 5),), (0, -1))]
        for moment, wanted in [(0, 0), (Fraction(99, 100), 0), (1, 1), (Fraction(101, 100), 2), (3, 2),
                               (Fraction(499, 100), 2), (5, 1), (Fraction(501, 100), 0)]:
            self.assertEqual(self.asked(told, ("count", 2, 0, 0), moment), wanted, moment)

    def test_nowhere(self):
        told = squares(a=(0, 0), b=(1, 1)) + [row("a", 5, None), row("c", 7, SQUARE), row("d", 0, None)]
        for moment in [0, 3, 5, 6, 7, END]:
            for question in [("touching", RING), ("within", RING), ("holding", ((1, 1),)), ("nearest", RING, 12),
                             ("meets",), ("close", 5), ("count", 30, 0, 0)]:
                self.asked(told, question, moment)
        self.assertEqual(self.asked(told, ("nearest", RING, 12), Fraction(99, 20)), ("a", "b"))
        self.assertEqual(self.asked(told, ("nearest", RING, 12), 5), ("b",))
        self.assertEqual(self.asked(told, ("meets",), END), (("b", "c"),))
        self.assertEqual(self.asked(told, ("count", 30, 0, 0), 5), 1)

    def test_at_the_end(self):
        told = [row("a", 0, ((0, 0),), (1, 0)), row("b", END, ((END, 0),)), row("c", 3, ((0, 0),), (MOST // 1000, 0))]
        self.assertEqual(self.asked(told, ("meets",), END), (("a", "b"),))
        self.assertEqual(self.asked(told, ("meets",), Fraction(10 ** 9 - 1, 1000)), ())
        self.assertEqual(self.asked(told, ("nearest", ((0, 0),), 12), END), ("a", "b", "c"))

    def test_the_book_stays(self):
        told = squares(a=(0, 0), b=(1, 1))
        book = Book(told)
        for question in QUESTIONS:
            answer(book, question, (7, 3))
        self.assertEqual(book, Book(told))

    def test_by_chance(self):
        chances = chance(50)
        answers = []
        for _ in range(60):
            told = some_tellings(chances, chances.randint(2, 12), names=6)
            for question in some_questions(chances):
                for moment in some_moments(chances, 4) + [0, END]:
                    answers.append(self.asked(told, question, moment))
        self.assertGreater(len([one for one in answers if one]), len(answers) // 5)

    def test_many_names(self):
        chances = chance(51)
        told = [row(name, 0, ((chances.randint(-9, 9), chances.randint(-9, 9)),), (chances.randint(-2, 2), 1))
                for name in LETTERS]
        for moment in some_moments(chances, 20):
            self.assertEqual(len(self.asked(told, ("nearest", SQUARE, 12), moment)), 12)
            self.asked(told, ("close", 2), moment)


if __name__ == "__main__":
    unittest.main()
