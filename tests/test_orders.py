"""Points 13, 14, 17: the order by gap, what stands ahead through a spell, papers of what is nearest."""

import unittest
from fractions import Fraction

from books import LETTERS, NO_QUESTIONS, QUESTIONS, gap_order, row, some_moments, some_tellings
from papers import is_paper, stands_ahead
from shapes import NO_RINGS, SQUARE, as_pair, some_ring
from test_lines import NO_SPELLS, WAYS, of
from test_papers import PaperCase, changed, some_stretch
from test_questions import NO_MOMENTS
from test_rows import NO_ROWS, NOWHERE
from things import ANYTHING, Calls, chance
from wherewhen.books.book import Book
from wherewhen.errors import NoMoment, NoQuestion, NoRing, NoRow, NoSpell
from wherewhen.nearest.orders import is_ahead, nearest_pieces, order_at
from wherewhen.papers.judge import shows, steps_in

DOT = ((0, 0),)


def dot(name, moment, x, pace=0):
    """A corner on the x-axis."""
    return row(name, moment, ((x, 0),), (pace, 0))


def still(x):
    return (0, ((x, 0),), (0, 0))


class OrderTest(Calls, unittest.TestCase):

    def ordered(self, told, ring, moment):
        found = self.told(order_at, Book(told), ring, as_pair(moment))
        self.assertEqual(found, gap_order(told, ring, moment))
        return found

    def test_order_at(self):
        told = [dot("c", 0, 5), dot("a", 0, -5), dot("b", 3, 1, 1), dot("d", 0, 0), row("e", 0, None)]
        self.assertEqual(self.ordered(told, DOT, 0), ("d", "a", "c"))
        self.assertEqual(self.ordered(told, DOT, 3), ("d", "b", "a", "c"))
        self.assertEqual(self.ordered(told, DOT, 7), ("d", "a", "b", "c"))
        self.assertEqual(self.ordered(told, DOT, Fraction(20, 3)), ("d", "b", "a", "c"))
        self.assertEqual(self.ordered(told, DOT, 8), ("d", "a", "c", "b"))
        self.assertEqual(self.ordered(told, ((-9, -9), (9, -9), (9, 9), (-9, 9)), 0), ("a", "c", "d"))
        self.assertEqual(self.ordered([], DOT, 0), ())
        book = Book(told + [dot("d", 0, 9), ("back", 1)])
        self.assertEqual([order_at(book.as_of(number), DOT, (4, 1)) for number in range(8)],
                         [(), ("c",), ("a", "c"), ("b", "a", "c"), ("d", "b", "a", "c"), ("d", "b", "a", "c"),
                          ("b", "a", "c", "d"), ("b", "c", "d")])

    def test_order_by_chance(self):
        chances = chance(80)
        for _ in range(60):
            told, ring = some_tellings(chances, 14, names=8), some_ring(chances, 6)
            for moment in some_moments(chances, 6):
                self.ordered(told, ring, moment)

    def test_refused(self):
        book = Book([dot("a", 0, 0)])
        for thing in NO_RINGS:
            self.refused(NoRing, order_at, book, thing, (0, 1))
            self.refused(NoRing, order_at, book, thing, None)
        for thing in NO_MOMENTS:
            self.assertIs(self.refused(NoMoment, order_at, book, DOT, thing).moment, thing)


class AheadTest(Calls, unittest.TestCase):

    def ahead(self, one, other, spell, number, ring=DOT):
        """By name: with above just where the other is less than the one."""
        found = []
        for above in (False, True):
            told = self.told(is_ahead, one, other, ring, spell, number, above=above)
            self.assertIs(type(told), bool)
            names = ("b", "a") if above else ("a", "b")
            self.assertIs(told, stands_ahead(names[0], one, names[1], other, ring, spell, number))
            found.append(told)
        self.assertIs(is_ahead(one, other, ring, spell, number), found[0])
        return found

    def test_by_each_number(self):
        near, whole = still(1), of(0, 9)
        self.assertEqual([self.ahead(near, still(5), whole, k)[0] for k in range(5)], [False, False, True, False, False])
        self.assertEqual([self.ahead(near, still(-5), whole, k)[0] for k in range(5)], [False, True, False, False, False])
        up, low = (0, ((0, 5),), (0, 0)), (0, ((0, -5),), (0, 0))
        self.assertEqual([self.ahead(near, up, whole, k)[0] for k in range(5)], [False, False, False, False, True])
        self.assertEqual([self.ahead(near, low, whole, k)[0] for k in range(5)], [False, False, False, True, False])
        self.assertEqual([self.ahead(still(0), still(0), whole, k)[0] for k in range(5)], [True] * 5)
        self.assertEqual([self.ahead(still(0), still(0), whole, k)[1] for k in range(5)], [False] * 5)

    def test_by_no_number(self):
        for thing in ANYTHING + [5, -1, 6, True, False, None, "2", (2,), [2]]:
            if not (type(thing) is int and thing in (1, 2)):
                self.assertIs(self.truth(is_ahead, still(1), still(5), DOT, of(0, 9), thing), False)
        self.assertIs(is_ahead(still(1), (0, ((5, 5),), (0, 0)), DOT, of(0, 9), True), False)
        for thing in [0, 1, None, "True", ()]:
            self.assertIs(is_ahead(still(1), still(5), DOT, of(0, 9), 2, above=thing), False)

    def test_at_ends_that_are_in_and_out(self):
        # The one goes from 2 to 4 in a gap like the other's at moment 2, and behind it the gap is greater.
        one, other = (0, ((2, 0),), (1, 0)), still(4)
        for ways in WAYS:
            self.assertEqual(self.ahead(one, other, of(0, 2, ways), 2), [True, not ways[1]])
            self.assertEqual(self.ahead(other, one, of(2, 5, ways), 2), [True, not ways[0]])
            self.assertEqual(self.ahead(one, other, of(0, 3, ways), 2), [False, False])
        self.assertEqual(self.ahead(one, other, of(2, 2), 2), [True, False])
        self.assertEqual(self.ahead(other, one, of(2, 2), 2), [True, False])
        self.assertEqual(self.ahead(one, other, of(1, 1), 2), [True, True])
        self.assertEqual(self.ahead(one, other, of(3, 3), 2), [False, False])

    def test_alike_all_through(self):
        self.assertEqual(self.ahead(still(3), still(-3), of(0, 9), 1), [True, False])
        self.assertEqual(self.ahead(still(3), still(3), of(0, 9), 2), [True, False])
        moving = (0, ((3, 0),), (1, 0))
        self.assertEqual(self.ahead(moving, (1, ((4, 0),), (1, 0)), of(0, 9), 2), [True, False])

    def test_by_chance(self):
        chances = chance(81)
        for _ in range(300):
            rows = [(chances.randint(0, 9), some_ring(chances, 4), (chances.randint(-2, 2), chances.randint(-2, 2)))
                    for _ in range(2)]
            spell, ring = some_stretch(chances, 9), some_ring(chances, 4)
            for number in range(5):
                self.ahead(rows[0], rows[1], spell, number, ring)

    def test_refused(self):
        spell = of(0, 1)
        for thing in NO_ROWS + [NOWHERE]:
            self.refused(NoRow, is_ahead, thing, still(1), DOT, spell, 0)
            self.refused(NoRow, is_ahead, still(1), thing, None, None, None)
        for thing in NO_RINGS:
            self.refused(NoRing, is_ahead, still(1), still(1), thing, spell, 0)
            self.refused(NoRing, is_ahead, still(1), still(1), thing, None, None)
        for thing in NO_SPELLS:
            self.refused(NoSpell, is_ahead, still(1), still(1), DOT, thing, 0)
            self.refused(NoSpell, is_ahead, still(1), still(1), DOT, thing, None, above=None)


class NearestTest(PaperCase):

    def pieces(self, told, many, stretch, ring=DOT):
        question = ("nearest", ring, many)
        found = self.told(nearest_pieces, Book(told), question, stretch)
        self.assertTrue(shows(Book(told), question, stretch, found))
        self.assertTrue(is_paper(told, question, stretch, found))
        steps = self.papered(told, question, stretch)[1]
        self.assertEqual(steps_in(found), steps)
        return steps

    def test_one_overtakes_another(self):
        told = [dot("a", 0, 2, 1), dot("b", 0, 6)]
        self.assertEqual(self.pieces(told, 1, of(0, 9)), ((of(0, 4), ("a",)), (of(4, 9, (False, True)), ("b",))))
        self.assertEqual(self.pieces(told, 2, of(0, 9)), ((of(0, 4), ("a", "b")), (of(4, 9, (False, True)), ("b", "a"))))
        told = [dot("b", 0, 2, 1), dot("a", 0, 6)]
        self.assertEqual(self.pieces(told, 1, of(0, 9)), ((of(0, 4, (True, False)), ("b",)), (of(4, 9), ("a",))))

    def test_alike_for_one_moment_alone(self):
        # Their gaps are alike at moment 3 alone, and about it that of the later name is less.
        told = [dot("b", 0, 2), row("a", 0, ((1, 5), ), (0, -1)), row("a", 3, ((2, 2),), (0, 1))]
        steps = self.pieces(told, 1, of(0, 9))
        self.assertEqual(steps, ((of(0, 3, (True, False)), ("b",)), (of(3, 3), ("a",)), (of(3, 9, (False, True)), ("b",))))
        self.assertEqual(self.pieces(told, 1, of(3, 9, (False, True))), ((of(3, 9, (False, True)), ("b",)),))
        self.assertEqual(self.pieces(told, 1, of(3, 3)), ((of(3, 3), ("a",)),))

    def test_alike_all_through(self):
        told = [dot("b", 0, 3, 1), dot("a", 0, -3, -1), row("c", 0, ((0, 3),), (0, 1))]
        for many, names in [(1, ("a",)), (2, ("a", "b")), (3, ("a", "b", "c")), (12, ("a", "b", "c"))]:
            self.assertEqual(self.pieces(told, many, of(0, 9)), ((of(0, 9), names),))

    def test_fewer_than_are_asked_for(self):
        told = [dot("a", 2, 5), dot("b", 4, 1), row("a", 6, None), row("b", 8, None)]
        wanted = ((of(0, 2, (True, False)), ()), (of(2, 4, (True, False)), ("a",)), (of(4, 6, (True, False)), ("b", "a")),
                  (of(6, 8, (True, False)), ("b",)), (of(8, 9), ()))
        self.assertEqual(self.pieces(told, 3, of(0, 9)), wanted)
        self.assertEqual(self.pieces(told, 3, of(1, 1)), ((of(1, 1), ()),))
        self.assertEqual(self.pieces(told, 3, of(4, 6, (False, False))), ((of(4, 6, (False, False)), ("b", "a")),))
        self.assertEqual(self.pieces([], 3, of(0, 9)), ((of(0, 9), ()),))

    def test_that_turn_about_within_the_gap(self):
        told = [row("a", 0, ((-20, 3),), (4, 0)), row("b", 0, ((-9, -9), (-8, -9), (-8, -8)), (1, 2)), dot("c", 0, 7, -1)]
        for stretch in [of(0, 20), of(2, 9, (False, True)), of(5, 5)]:
            for many in (1, 2, 3):
                self.pieces(told, many, stretch, SQUARE)

    def test_many_by_chance(self):
        chances = chance(82)
        for _ in range(40):
            told = some_tellings(chances, chances.randint(3, 14), names=7)
            self.pieces(told, chances.choice([1, 2, 3, 5, 12]), some_stretch(chances), some_ring(chances, 4))

    def test_twelve_that_move_alike_in_time(self):
        told = [row(name, 0, ((3 * at, 40 - 5 * at),), (at % 3 - 1, at % 5 - 2)) for at, name in enumerate(LETTERS)]
        for many in (1, 4, 12):
            self.pieces(told, many, of(0, 30), SQUARE)

    def test_marks(self):
        told = [dot("a", 0, 2), dot("b", 0, -4), row("c", 0, ((0, 6),)), row("d", 0, ((0, -8),)), row("e", 0, None)]
        question, stretch = ("nearest", DOT, 2), of(0, 9)
        good = ((stretch, ("a", "b"), ((1,), (("c", 4), ("d", 3)))),)
        self.assertEqual(self.told(nearest_pieces, Book(told), question, stretch), good)
        for marks in [((1,), (("d", 3), ("c", 4))), ((1,), (("c", 4),)), ((1,), (("c", 4), ("d", 3), ("e", 0))), ((1,), ()),
                      ((1, 1), (("c", 4), ("d", 3))), ((), (("c", 4), ("d", 3))), ((2,), (("c", 4), ("d", 3))),
                      ((1,), (("c", 3), ("d", 4))), ((True,), (("c", 4), ("d", 3))), ([1], (("c", 4), ("d", 3))),
                      ((1,), [("c", 4), ("d", 3)]), ((1,), (["c", 4], ("d", 3))), ((1,), (("c", 4), ("d", True))),
                      ((5,), (("c", 4), ("d", 3))), ((-4,), (("c", 4), ("d", 3))), ((1,), (("c", 4), ("d", 3)), ()),
                      ((1,), (("b", 1), ("c", 4), ("d", 3))), ((1,), (("c", 4), ("c", 4))), (1, (("c", 4), ("d", 3)))]:
            self.assertFalse(self.judged(told, question, stretch, changed(good, 0, 2, marks)), marks)
        for names, marks in [(("b", "a"), ((2,), (("c", 4), ("d", 3)))), (("a",), ((), (("b", 1), ("c", 4), ("d", 3)))),
                             (("a", "c"), ((4,), (("b", 1), ("d", 3)))), (("a", "a"), ((2,), (("b", 1), ("c", 4), ("d", 3)))),
                             (["a", "b"], good[0][2]), (("a", "e"), good[0][2]), (("a", "z"), good[0][2]),
                             (("a", "e"), ((1,), (("b", 1), ("c", 4), ("d", 3)))),
                             (("z", "a"), ((2,), (("b", 1), ("c", 4), ("d", 3)))),
                             (("a", ["b"]), good[0][2]), ((), good[0][2]), (("a", "b", "c"), ((1, 4), (("d", 3),)))]:
            self.assertFalse(self.judged(told, question, stretch, ((stretch, names, marks),)), names)

    def test_other_marks_that_do(self):
        # As far along x as along y, so two lines of each are as good.
        told = [dot("a", 0, 2), row("b", 0, ((5, 5),)), row("c", 0, ((-7, 7),))]
        for one in range(5):
            for other in range(5):
                paper = ((of(0, 9), ("a", "b"), ((one,), (("c", other),))),)
                found = self.judged(told, ("nearest", DOT, 2), of(0, 9), paper)
                self.assertIs(found, one in (2, 4) and other in (1, 4))

    def test_refused(self):
        book = Book([dot("a", 0, 0)])
        for thing in NO_QUESTIONS + [question for question in QUESTIONS if question[0] != "nearest"]:
            self.refused(NoQuestion, nearest_pieces, book, thing, of(0, 1))
            self.refused(NoQuestion, nearest_pieces, book, thing, None)
        for thing in NO_SPELLS:
            self.refused(NoSpell, nearest_pieces, book, ("nearest", DOT, 1), thing)


if __name__ == "__main__":
    unittest.main()
