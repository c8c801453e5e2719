"""Points 1, 2, 15 to 18: timelines, papers, and the judge of papers."""

import itertools
import unittest
from fractions import Fraction

from books import END, NO_QUESTIONS, QUESTIONS, answer_at, row, some_questions, some_tellings
from papers import is_paper
from shapes import SQUARE, as_number, as_pair
from test_lines import NO_SPELLS, WAYS, of
from things import ANYTHING, Calls, chance, otherwise, same
from wherewhen.asks.plain import answer
from wherewhen.books.book import Book
from wherewhen.errors import NoQuestion, NoSpell
from wherewhen.numbers.spells import has
from wherewhen.numbers.steps import answer_in, are_steps, stretch_of
from wherewhen.papers.finder import paper_of, timeline
from wherewhen.papers.judge import shows, steps_in

WHOLE = of(0, 40)
OPEN = ((True, False), (False, True), (False, False))
STILL = row("gate", 0, ((10, 0), (12, 0), (12, 2), (10, 2)))
COMING = row("cart", 0, ((0, 0), (2, 0), (2, 2), (0, 2)), (1, 0))
ROOM = ((10, -5), (20, -5), (20, 5), (10, 5))


def some_stretch(chances, last=14):
    begin, end = sorted([Fraction(chances.randint(0, 2 * last), 2), Fraction(chances.randint(0, 2 * last), 2)])
    ways = chances.choice(WAYS) if begin < end else (True, True)
    return (as_pair(begin), ways[0], as_pair(end), ways[1])


def changed(paper, at, part, thing):
    """The paper with one part of one piece otherwise."""
    piece = paper[at][:part] + (thing,) + paper[at][part + 1:]
    return paper[:at] + (piece,) + paper[at + 1:]


def marked(paper, at, number, mark):
    """The paper with one mark of one piece otherwise."""
    marks = paper[at][2]
    return changed(paper, at, 2, marks[:number] + (mark,) + marks[number + 1:])


class PaperCase(Calls, unittest.TestCase):

    def papered(self, told, question, stretch):
        """A paper that is one, with the timeline's answers, right at its ends and beside them."""
        book = Book(told)
        paper, steps = self.told(paper_of, book, question, stretch), self.told(timeline, book, question, stretch)
        self.assertEqual(book, Book(told))
        self.assertTrue(self.truth(shows, book, question, stretch, paper), (told, question, stretch, paper))
        self.assertTrue(is_paper(told, question, stretch, paper), (told, question, stretch, paper))
        self.assertEqual(self.told(steps_in, paper), steps)
        self.assertTrue(are_steps(steps))
        self.assertEqual(stretch_of(steps), stretch)
        for moment in self.moments_of(paper, stretch):
            wanted = answer_at(told, question, as_number(moment))
            self.assertEqual(answer_in(steps, moment), wanted, (told, question, stretch, moment))
            self.assertEqual(answer(book, question, moment), wanted)
            self.assertIs(type(wanted), int if question[0] == "count" else tuple)
        return paper, steps

    def moments_of(self, paper, stretch):
        found = []
        for spell, _, _ in paper:
            begin, end = as_number(spell[0]), as_number(spell[2])
            found += [begin, end, (begin + end) / 2, begin + (end - begin) / 10 ** 9, end - (end - begin) / 10 ** 9]
        return [as_pair(moment) for moment in sorted({*found}) if has(stretch, as_pair(moment))]

    def judged(self, told, question, stretch, thing):
        """The judge takes just what is a paper."""
        found = shows(Book(told), question, stretch, thing)
        self.assertIs(found, is_paper(told, question, stretch, thing), (told, question, stretch, thing))
        return found


class TimelineTest(PaperCase):

    def steps(self, told, question, stretch=WHOLE):
        return self.papered(told, question, stretch)[1]

    def test_touching(self):
        told = [COMING, STILL]
        wanted = ((of(0, 8, (True, False)), ("gate",)), (of(8, 20), ("cart", "gate")), (of(20, 40, (False, True)), ("gate",)))
        self.assertEqual(self.steps(told, ("touching", ROOM)), wanted)
        self.assertEqual(self.steps(told, ("touching", ROOM), of(9, 10)), ((of(9, 10), ("cart", "gate")),))
        self.assertEqual(self.steps(told, ("touching", ROOM), of(5, 8)),
                         ((of(5, 8, (True, False)), ("gate",)), (of(8, 8), ("cart", "gate"))))
        behind = of(20, 30, (False, True))
        self.assertEqual(self.steps(told, ("touching", ROOM), behind), ((behind, ("gate",)),))

    def test_within(self):
        wanted = ((of(0, 10, (True, False)), ("gate",)), (of(10, 18), ("cart", "gate")), (of(18, 40, (False, True)), ("gate",)))
        self.assertEqual(self.steps([COMING, STILL], ("within", ROOM)), wanted)
        wanted = ((of(0, 10, (True, False)), ()), (of(10, 10), ("cart",)), (of(10, 40, (False, True)), ()))
        self.assertEqual(self.steps([COMING], ("within", STILL[3])), wanted)

    def test_holding(self):
        wanted = ((of(0, 10, (True, False)), ()), (of(10, 12), ("cart",)), (of(12, 40, (False, True)), ()))
        self.assertEqual(self.steps([COMING], ("holding", ((12, 1),))), wanted)
        wanted = ((of(0, 10, (True, False)), ()), (of(10, 10), ("cart",)), (of(10, 40, (False, True)), ()))
        self.assertEqual(self.steps([COMING], ("holding", STILL[3])), wanted)

    def test_meets_and_close(self):
        pair = (("cart", "gate"),)
        wanted = ((of(0, 8, (True, False)), ()), (of(8, 12), pair), (of(12, 40, (False, True)), ()))
        self.assertEqual(self.steps([COMING, STILL], ("meets",)), wanted)
        self.assertEqual(self.steps([COMING, STILL], ("close", 0)), wanted)
        wanted = ((of(0, 5, (True, False)), ()), (of(5, 15), pair), (of(15, 40, (False, True)), ()))
        self.assertEqual(self.steps([COMING, STILL], ("close", 3)), wanted)

    def test_touching_for_one_moment(self):
        told = [row("a", 0, ((0, 4),), (1, -1)), row("b", 0, ((4, 0),))]
        pair = (("a", "b"),)
        self.assertEqual(self.steps(told, ("meets",)),
                         ((of(0, 4, (True, False)), ()), (of(4, 4), pair), (of(4, 40, (False, True)), ())))
        self.assertEqual(self.steps(told, ("meets",), of(4, 4)), ((of(4, 4), pair),))
        self.assertEqual(self.steps(told, ("meets",), of(4, 9, (False, True))), ((of(4, 9, (False, True)), ()),))

    def test_count_on_each_side(self):
        # The tile is x and y from 4 on, below 8: in from the left and out at the right, in from the right, and so of y.
        for start, pace, inside in [((0, 5), (1, 0), of(4, 8, (True, False))), ((12, 5), (-1, 0), of(4, 8, (False, True))),
                                    ((5, 0), (0, 1), of(4, 8, (True, False))), ((5, 12), (0, -1), of(4, 8, (False, True)))]:
            told = [row("a", 0, (start,), pace)]
            wanted = ((of(0, inside[0][0], (True, not inside[1])), 0), (inside, 1),
                      (of(inside[2][0], 40, (not inside[3], True)), 0))
            self.assertEqual(self.steps(told, ("count", 2, 1, 1)), wanted)
        told = [row("a", 0, ((2, 2),), (1, 1)), row("b", 0, ((10, 10),), (-1, -1)), row("c", 2, ((7, 7), (9, 9)))]
        self.assertEqual([told for spell, told in self.steps(told, ("count", 2, 1, 1))], [0, 2, 3, 2, 1])

    def test_ways_within_the_stretch(self):
        told = [COMING, STILL, row("cart", 9, None), row("cart", 11, COMING[3]), row("gate", 20, COMING[3])]
        pair = (("cart", "gate"),)
        wanted = ((of(0, 8, (True, False)), ()), (of(8, 9, (True, False)), pair), (of(9, 20, (True, False)), ()),
                  (of(20, 40), pair))
        self.assertEqual(self.steps(told, ("meets",)), wanted)
        self.assertEqual(self.steps(told, ("close", 3)),
                         ((of(0, 5, (True, False)), ()), (of(5, 9, (True, False)), pair), (of(9, 20, (True, False)), ()),
                          (of(20, 40), pair)))

    def test_no_names(self):
        for question in QUESTIONS:
            none = 0 if question[0] == "count" else ()
            for stretch in [WHOLE, of(3, 3), of(0, END), of(2, 5, (False, False))]:
                self.assertEqual(self.steps([], question, stretch), ((stretch, none),))
                self.assertEqual(self.steps([row("a", 9, SQUARE), ("back", 0)], question, stretch), ((stretch, none),))
                self.assertEqual(self.steps([row("a", 3, None)], question, stretch), ((stretch, none),))

    def test_at_the_end(self):
        told = [row("a", 0, ((0, 0),), (1, 0)), row("b", END, ((END, 0),)), row("c", 0, ((END, 0),))]
        steps = self.steps(told, ("meets",), of(0, END))
        self.assertEqual(steps, ((of(0, END, (True, False)), ()), (of(END, END), (("a", "b"), ("a", "c"), ("b", "c")))))

    def test_by_chance(self):
        chances = chance(70)
        for _ in range(100):
            told = some_tellings(chances, chances.randint(0, 14), names=5)
            for question in some_questions(chances):
                self.papered(told, question, some_stretch(chances))

    def test_refused(self):
        book = Book([COMING])
        for thing in NO_QUESTIONS:
            for function, last in [(timeline, ()), (paper_of, ()), (shows, (None,))]:
                self.refused(NoQuestion, function, book, thing, WHOLE, *last)
                self.refused(NoQuestion, function, book, thing, None, *last)
        for question in QUESTIONS:
            for thing in NO_SPELLS:
                for function, last in [(timeline, ()), (paper_of, ()), (shows, ((),))]:
                    self.refused(NoSpell, function, book, question, thing, *last)


class JudgeTest(PaperCase):

    TOLD = [COMING, STILL, row("dot", 6, ((11, 1),)), row("gone", 7, None), row("dot", 30, None)]

    def test_anything(self):
        book = Book(self.TOLD)
        for question in QUESTIONS:
            for thing in ANYTHING + [paper_of(book, question, of(3, 20))]:
                self.assertIs(self.truth(shows, book, question, WHOLE, thing), False)

    def test_one_part_otherwise(self):
        questions = [("touching", ROOM), ("within", ROOM), ("holding", ((11, 1),)), ("nearest", ((11, 1),), 2), ("meets",),
                     ("close", 1), ("count", 1, 5, 0)]
        taken = 0
        for question in questions:
            paper, _ = self.papered(self.TOLD, question, of(7, 13))
            for at in range(len(paper)):
                for part in range(3):
                    # Of so many marks otherwise each eleventh is enough, beginning at another one each time.
                    for thing in otherwise(paper[at][part])[at % 11::11 if part == 2 else 1]:
                        other = changed(paper, at, part, thing)
                        taken += self.judged(self.TOLD, question, of(7, 13), other)
            for thing in [paper[1:], paper[:-1], paper + paper[-1:], list(paper), paper[::-1], (paper,)]:
                self.judged(self.TOLD, question, of(7, 13), thing)
            for piece in otherwise(paper[0][:1]) + [list(paper[0]), paper[0] + (0,), paper[0][:2]]:
                self.judged(self.TOLD, question, of(7, 13), (piece,) + paper[1:])
        self.assertGreater(taken, 0)

    def test_other_marks_of_a_touch(self):
        told, question = [row("a", 0, SQUARE)], ("touching", ((4, 0), (8, 0), (8, 4), (4, 4)))
        stretch = of(0, 9)
        paper = ((stretch, ("a",), (("spots", ((4, 1), (0, 1)), ((4, 1), (7, 2))),)),)
        self.assertTrue(self.judged(told, question, stretch, paper))
        for y, fits in [((1, 2), True), ((4, 1), True), ((9, 2), False), ((-1, 3), False)]:
            self.assertIs(self.judged(told, question, stretch, marked(paper, 0, 0, ("spots", ((4, 1), y), ((4, 1), (0, 1))))), fits)
            self.assertIs(self.judged(told, question, stretch, marked(paper, 0, 0, ("spots", ((4, 1), (0, 1)), ((4, 1), y)))), fits)
        for mark in [("none",), ("in",), ("line", (1, 0)), ("out", 0), ("spots", ((3, 1), (0, 1)), ((4, 1), (0, 1)))]:
            self.assertFalse(self.judged(told, question, stretch, marked(paper, 0, 0, mark)))
        self.assertFalse(self.judged(told, question, stretch, changed(paper, 0, 1, ())))

    def test_other_marks_of_a_parting(self):
        told, question = [row("a", 0, SQUARE, (1, 0))], ("touching", ((9, 6), (12, 6), (12, 9)))
        stretch = of(0, 5, (True, False))
        for direction, fits in [((1, 0), True), ((7, 0), True), ((0, 1), True), ((1, 1), True), ((-1, 0), False), ((0, -1), False),
                                ((1, -1), False), ((2, -1), False), ((0, 0), False), ((True, 0), False), ((1, True), True)]:
            fits = fits and type(direction[0]) is int and type(direction[1]) is int
            self.assertIs(self.judged(told, question, stretch, ((stretch, (), (("line", direction),)),)), fits)
            self.assertFalse(self.judged(told, question, stretch, ((stretch, ("a",), (("line", direction),)),)))
        self.assertFalse(self.judged(told, question, of(0, 5), ((of(0, 5), (), (("line", (1, 0)),)),)))
        self.assertTrue(self.judged(told, question, of(0, 5), ((of(0, 5), (), (("line", (0, 1)),)),)))

    def test_the_first_is_parted_from_the_second(self):
        told = [row("b", 0, SQUARE), row("a", 0, ((9, 0),))]
        self.assertTrue(self.judged(told, ("meets",), WHOLE, ((WHOLE, (), (("line", (-1, 0)),)),)))
        self.assertFalse(self.judged(told, ("meets",), WHOLE, ((WHOLE, (), (("line", (1, 0)),)),)))

    def all_marks(self, told, question, stretch, answers, marks):
        """How many of these marks make a paper of one piece, beside any of the answers."""
        taken = 0
        for told_answer, mark in itertools.product(answers, marks):
            taken += self.judged(told, question, stretch, ((stretch, told_answer, (mark,)),))
        return taken

    def test_other_corners_and_fences(self):
        told = [row("a", 0, ((-8, 0), (-6, 0), (-6, 2), (-8, 2)), (2, 1)), ]
        marks = [("out", c, f) for c in range(-1, 6) for f in range(-1, 6)] + [("in",), ("none",), ("out", 0), ("out", True, 0),
                                                                           ("out", 0, False), ("out", 0, 0, 0)]
        self.assertEqual(self.all_marks(told, ("within", SQUARE), of(0, 2), [(), ("a",), 0, ["a"]], marks), 4)
        self.assertEqual(self.all_marks(told, ("within", SQUARE), of(0, 3, (True, False)), [()], marks), 4)
        self.assertEqual(self.all_marks(told, ("within", SQUARE), of(0, 3), [()], marks), 2)
        self.assertGreater(self.all_marks(told, ("holding", SQUARE), of(0, 2), [(), ("a",)], marks), 3)
        inside = [row("a", 0, ((1, 1), (2, 1), (2, 2)), (0, 0))]
        self.assertEqual(self.all_marks(inside, ("within", SQUARE), of(0, 2), [(), ("a",)], marks), 1)

    def test_other_lines(self):
        marks = [("out", k) for k in range(-1, 7)] + [("in",), ("none",), ("out",), ("out", True), ("out", False), ("out", 1, 0)]
        told = [row("a", 0, ((10, 20),), (-1, 0))]
        for stretch, wanted in [(of(0, 3), 2), (of(0, 10), 1), (of(0, 30), 1)]:
            self.assertEqual(self.all_marks(told, ("count", 2, 0, 0), stretch, [0, 1, (), True, False], marks), wanted)
        self.assertEqual(self.all_marks(told, ("count", 3, 1, 2), of(0, 2), [0, 1, True], marks), 1)
        self.assertEqual(self.all_marks(told, ("count", 3, 1, 2), of(0, 3), [0, 1], marks), 0)
        self.assertEqual(self.all_marks(told, ("count", 3, 1, 2), of(2, 3, (False, True)), [0, 1], marks), 1)

    def test_other_lines_of_close(self):
        marks = [("out", k) for k in range(-1, 7)] + [("in",), ("none",), ("out",), ("out", True), ("out", 4, 0)]
        told = [row("a", 0, ((10, 20),), (-1, 0)), row("b", 0, ((0, 0),))]
        pair = (("a", "b"),)
        for far, stretch, wanted in [(5, of(0, 4), 2), (5, of(0, 5, (True, False)), 2), (5, of(0, 5), 1), (20, of(0, 5), 1),
                                     (20, of(0, 31), 0), (19, of(0, 5), 1)]:
            self.assertEqual(self.all_marks(told, ("close", far), stretch, [(), pair, (("b", "a"),)], marks), wanted)

    def test_a_piece_in_one_way(self):
        told = [row("a", 3, SQUARE), row("b", 0, None), row("a", 6, SQUARE), row("b", 8, None)]
        question, spot = ("touching", SQUARE), ("spots", ((0, 1), (0, 1)), ((0, 1), (0, 1)))
        cuts = [of(0, 3, (True, False)), of(3, 6, (True, False)), of(6, 8, (True, False)), of(8, 9)]
        answers = [(), ("a",), ("a",), ("a",)]
        marks = [(("none",), ("none",))] + [(spot, ("none",))] * 3
        paper = tuple(zip(cuts, answers, marks))
        self.assertTrue(self.judged(told, question, of(0, 9), paper))
        together = paper[:1] + ((of(3, 9), ("a",), (spot, ("none",))),)
        self.assertFalse(self.judged(told, question, of(0, 9), together))
        together = paper[:2] + ((of(6, 9), ("a",), (spot, ("none",))),)
        self.assertFalse(self.judged(told, question, of(0, 9), together))
        finer = paper[:3] + ((of(8, 9, (True, False)),) + paper[3][1:], (of(9, 9),) + paper[3][1:])
        self.assertTrue(self.judged(told, question, of(0, 9), finer))
        overlong = ((of(0, 3),) + paper[0][1:], (of(3, 6, (False, False)),) + paper[1][1:]) + paper[2:]
        self.assertFalse(self.judged(told, question, of(0, 9), overlong))
        self.assertFalse(self.judged(told, question, of(0, 9), marked(paper, 0, 0, spot)))
        self.assertFalse(self.judged(told, question, of(0, 9), marked(paper, 1, 1, spot)))

    def test_pairs_rise(self):
        told = [row("c", 0, SQUARE), row("a", 0, ((4, 4),)), row("b", 0, ((9, 9),))]
        spots, line = ("spots", ((4, 1), (4, 1)), ((4, 1), (4, 1))), ("line", (1, 1))
        back = ("line", (-1, -1))
        paper = ((WHOLE, (("a", "c"),), (line, spots, back)),)
        self.assertTrue(self.judged(told, ("meets",), WHOLE, paper))
        for marks in itertools.permutations([line, spots, back]):
            self.judged(told, ("meets",), WHOLE, changed(paper, 0, 2, marks))
        for thing in [(("c", "a"),), (("a", "b"),), (), [("a", "c")], (("a", "c"), ("b", "c")), ("a", "c"), (["a", "c"],)]:
            self.assertFalse(self.judged(told, ("meets",), WHOLE, changed(paper, 0, 1, thing)))

    def test_nothing_wrong_is_taken(self):
        chances = chance(71)
        papers = []
        for _ in range(25):
            told = some_tellings(chances, chances.randint(1, 8), names=3)
            stretch = some_stretch(chances)
            for question in some_questions(chances):
                papers.append((told, question, stretch, paper_of(Book(told), question, stretch)))
        pieces = [piece for _, _, _, paper in papers for piece in paper]
        marks = [mark for piece in pieces for mark in piece[2]]
        taken = 0
        for told, question, stretch, paper in papers:
            at = chances.randrange(len(paper))
            for _ in range(6):
                taken += self.judged(told, question, stretch, changed(paper, at, 1, chances.choice(pieces)[1]))
                other = changed(paper, at, 2, chances.choice(pieces)[2])
                taken += self.judged(told, question, stretch, other)
                if question[0] != "nearest" and paper[at][2]:
                    number = chances.randrange(len(paper[at][2]))
                    other = marked(paper, at, number, chances.choice(marks))
                    taken += self.judged(told, question, stretch, other)
        self.assertGreater(taken, 200)

    def test_steps_in(self):
        paper = ((of(0, 3, (True, False)), ("a",), ()), (of(3, 3), ("a",), None), (of(3, 5, (False, True)), (), 0))
        self.assertEqual(self.told(steps_in, paper), ((of(0, 3), ("a",)), (of(3, 5, (False, True)), ())))
        book, stretch = Book(self.TOLD), of(0, 40)
        for question in QUESTIONS:
            self.assertTrue(same(steps_in(paper_of(book, question, stretch)), timeline(book, question, stretch)))


if __name__ == "__main__":
    unittest.main()
