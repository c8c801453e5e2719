"""Point 3: moments, spells, sets of moments."""

import itertools
import unittest

from things import ANYTHING, SIXTY, Calls, chance, otherwise
from wherewhen.errors import NoMoment, NoSpell
from wherewhen.numbers import spells as module
from wherewhen.numbers.fractions import fraction, is_less, plus
from wherewhen.numbers.spells import both, but, has, is_moment, is_spell, is_straight, shared, some_moment, spell
from wherewhen.numbers.spells import together

END = 10 ** 6
MOMENTS = [(0, 1), (1, 2), (1, 1), (END, 1), (2 * END - 1, 2), (1, SIXTY)]
NO_MOMENTS = [(-1, 1), (-1, SIXTY), (END + 1, 1), (2 * END + 1, 2), (SIXTY, 1), (2, 2), (1, 0), [0, 1], 0, 1, True, None,
              "0", (0, True), (False, 1), {}]
WAYS = [(True, True), (True, False), (False, True), (False, False)]


def of(begin, end, ways="[]"):
    return ((begin, 1), ways[0] == "[", (end, 1), ways[1] == "]")


def inside(one, moment):
    begin, with_begin, end, with_end = one
    if moment == begin:
        return with_begin and (begin != end or with_end)
    if moment == end:
        return with_end
    return is_less(begin, moment) and is_less(moment, end)


def small_spells(most):
    """All spells between the whole numbers up to the most."""
    return [((a, 1), c, (b, 1), d) for a in range(most + 1) for b in range(a, most + 1) for c, d in WAYS
            if a < b or c and d]


GRID = [fraction(k, under=2) for k in range(0, 13)]


class SpellsTest(Calls, unittest.TestCase):

    def moments_of(self, some):
        return [moment for moment in GRID if any(inside(one, moment) for one in some)]

    def look_at_set(self, found):
        """A rising tuple, no two sharing a moment or straight ahead of one another."""
        self.assertIs(type(found), tuple)
        for one in found:
            self.assertTrue(is_spell(one))
        for one, other in zip(found, found[1:]):
            self.assertFalse(is_less(other[0], one[2]))
            if one[2] == other[0]:
                self.assertFalse(one[3] or other[1])

    def test_end(self):
        self.assertEqual(module.END, END)

    def test_is_moment(self):
        for moment in MOMENTS:
            self.assertTrue(self.truth(is_moment, moment))
        for thing in NO_MOMENTS:
            self.assertFalse(self.truth(is_moment, thing), thing)
        for thing in ANYTHING:
            self.truth(is_moment, thing)

    def test_is_spell(self):
        for one in small_spells(3) + [((0, 1), True, (END, 1), True), ((1, 3), False, (1, 2), False)]:
            self.assertTrue(self.truth(is_spell, one))
        for with_begin, with_end in WAYS[1:]:
            self.assertFalse(self.truth(is_spell, ((2, 1), with_begin, (2, 1), with_end)))
        for with_begin, with_end in WAYS:
            self.assertFalse(self.truth(is_spell, ((3, 1), with_begin, (2, 1), with_end)))
        for thing in NO_MOMENTS:
            self.assertFalse(self.truth(is_spell, (thing, True, (END, 1), True)))
            self.assertFalse(self.truth(is_spell, ((0, 1), True, thing, True)))

    def test_is_spell_of_anything(self):
        good = [((0, 1), True, (1, 1), True)]
        for thing in ANYTHING:
            self.assertEqual(self.truth(is_spell, thing), thing in good and type(thing[1]) is bool, thing)
        for thing in otherwise(of(3, 7, "[)")):
            if self.truth(is_spell, thing):
                self.assertTrue(is_moment(thing[0]) and is_moment(thing[2]))
                self.assertTrue(type(thing[1]) is bool and type(thing[3]) is bool and type(thing) is tuple)

    def test_spell(self):
        self.assertEqual(self.told(spell, (1, 2), (3, 1)), ((1, 2), True, (3, 1), True))
        self.assertEqual(self.told(spell, (0, 1), (END, 1), with_end=False), ((0, 1), True, (END, 1), False))
        self.assertEqual(self.told(spell, (0, 1), (1, 1), with_begin=False), ((0, 1), False, (1, 1), True))
        self.assertEqual(self.told(spell, (5, 1), (5, 1)), ((5, 1), True, (5, 1), True))
        with self.assertRaises(TypeError):
            spell((0, 1), (1, 1), True)

    def test_spell_refused_in_order(self):
        for thing in NO_MOMENTS:
            for named in [{}, {"with_begin": 1}, {"with_end": None}]:
                self.assertIs(self.refused(NoMoment, spell, thing, (0, 1), **named).moment, thing)
                self.assertIs(self.refused(NoMoment, spell, (1, 1), thing, **named).moment, thing)
                self.assertIs(self.refused(NoMoment, spell, thing, (-5, 1), **named).moment, thing)
        for thing in [0, 1, None, "a", (), [True]]:
            self.refused(NoSpell, spell, (0, 1), (1, 1), with_begin=thing)
            self.refused(NoSpell, spell, (0, 1), (1, 1), with_end=thing)
        for with_begin, with_end in WAYS:
            self.refused(NoSpell, spell, (2, 1), (1, 1), with_begin=with_begin, with_end=with_end)
        for with_begin, with_end in WAYS[1:]:
            self.refused(NoSpell, spell, (1, 1), (1, 1), with_begin=with_begin, with_end=with_end)

    def test_has(self):
        for one in small_spells(4):
            for moment in GRID:
                self.assertIs(self.truth(has, one, moment), inside(one, moment))

    def test_has_refused(self):
        for thing in NO_MOMENTS:
            self.assertIs(self.refused(NoMoment, has, of(0, 1), thing).moment, thing)
        for thing in [None, (), of(2, 1), list(of(0, 1)), "[0 1]", 1]:
            self.refused(NoSpell, has, thing, (0, 1))
            self.refused(NoSpell, has, thing, None)

    def test_shared(self):
        rows = small_spells(4)
        for one, other in itertools.product(rows, rows):
            told = shared(one, other)
            moments = [moment for moment in GRID if inside(one, moment) and inside(other, moment)]
            self.assertEqual([] if told is None else self.moments_of([told]), moments)
            self.assertTrue(told is None or is_spell(told))
        self.assertEqual(self.told(shared, of(0, 3), of(3, 5)), of(3, 3))
        self.assertIsNone(self.told(shared, of(0, 3, "[)"), of(3, 5)))
        self.assertIsNone(self.told(shared, of(0, 3), of(4, 5)))
        self.assertEqual(self.told(shared, of(0, 4, "[)"), of(2, 5, "(]")), of(2, 4, "()"))

    def test_is_straight(self):
        rows = small_spells(3)
        for one, other in itertools.product(rows, rows):
            fits = one[2] == other[0] and one[3] != other[1]
            self.assertIs(is_straight(one, other), fits)
        self.assertIs(self.truth(is_straight, of(3, 3), of(3, 5, "(]")), True)
        self.assertIs(self.truth(is_straight, of(3, 3), of(3, 3)), False)

    def test_shared_and_is_straight_refused(self):
        for thing in [None, (), of(2, 1), list(of(0, 1)), "[0 1]", 1, ((0, 1), 1, (1, 1), True)]:
            self.refused(NoSpell, shared, thing, of(0, 1))
            self.refused(NoSpell, shared, of(0, 1), thing)
            self.refused(NoSpell, is_straight, thing, of(0, 1))
            self.refused(NoSpell, is_straight, thing, thing)
            self.refused(NoSpell, some_moment, thing)
        for thing in ANYTHING + otherwise(of(1, 2, "(]")):
            fits = is_spell(thing) and thing[0] == (1, 1) and not thing[1]
            self.assertIs(self.truth(is_straight, of(0, 1), thing), fits)

    def test_some_moment(self):
        thin = ((1, SIXTY), False, (2, SIXTY), False)
        for one in small_spells(4) + [thin, of(0, END, "()"), of(END, END), of(0, 0)]:
            moment = self.told(some_moment, one)
            self.assertTrue(is_moment(moment))
            self.assertTrue(inside(one, moment))

    def test_together_told(self):
        self.assertEqual(self.told(together, ()), ())
        self.assertEqual(self.told(together, []), ())
        self.assertEqual(self.told(together, (of(1, 2),)), (of(1, 2),))
        self.assertEqual(self.told(together, [of(4, 5), of(1, 2)]), (of(1, 2), of(4, 5)))
        self.assertEqual(self.told(together, [of(1, 2), of(1, 2)]), (of(1, 2),))
        self.assertEqual(self.told(together, (of(2, 3, "(]"), of(1, 2))), (of(1, 3),))
        self.assertEqual(self.told(together, (of(2, 3, "(]"), of(1, 2, "[)"))), (of(1, 2, "[)"), of(2, 3, "(]")))
        self.assertEqual(self.told(together, (of(2, 3, "(]"), of(1, 2, "[)"), of(2, 2))), (of(1, 3),))
        self.assertEqual(self.told(together, [of(0, 9), of(1, 2), of(3, 4, "()")]), (of(0, 9),))

    def test_both_and_but_told(self):
        whole = of(0, END)
        self.assertEqual(self.told(both, (), [whole]), ())
        self.assertEqual(self.told(but, (), [whole]), ())
        self.assertEqual(self.told(but, [whole], ()), (whole,))
        self.assertEqual(self.told(but, [whole], [whole]), ())
        self.assertEqual(self.told(but, [whole], [of(5, 5)]), (of(0, 5, "[)"), of(5, END, "(]")))
        self.assertEqual(self.told(but, (whole,), (of(0, 5, "(]"), of(7, END, "[)"))),
                         (of(0, 0), of(5, 7, "()"), of(END, END)))
        self.assertEqual(self.told(both, (of(0, 2), of(2, 4, "(]")), [of(1, 3)]), (of(1, 3),))
        self.assertEqual(self.told(but, [of(0, 4)], (of(1, 2), of(2, 3, "(]"))), (of(0, 1, "[)"), of(3, 4, "(]")))

    def test_sets_by_their_moments(self):
        chances = chance(3)
        rows = small_spells(6)
        for _ in range(1500):
            some = chances.choices(rows, k=chances.randint(0, 6))
            others = chances.choices(rows, k=chances.randint(0, 6))
            mine, theirs = self.moments_of(some), self.moments_of(others)
            wanted = [
                (together(some), mine),
                (both(tuple(some), others), [moment for moment in mine if moment in theirs]),
                (but(some, tuple(others)), [moment for moment in mine if moment not in theirs]),
            ]
            for found, moments in wanted:
                self.look_at_set(found)
                self.assertEqual(self.moments_of(found), moments)
            self.assertEqual(together(some), together(tuple(some[::-1])))
            self.assertEqual(both(some, others), both(others, some))

    def test_sets_of_unlike_unders(self):
        thirds = [spell(fraction(k, under=3), fraction(k + 1, under=3), with_end=False) for k in range(30)]
        self.assertEqual(together(thirds[::-1]), (of(0, 10, "[)"),))
        sevenths = [spell((k, 7), plus((k, 7), (1, 14)), with_begin=False) for k in range(1, 7)]
        self.look_at_set(both(thirds, sevenths))
        self.assertEqual(len(but(thirds, sevenths)), 7)

    def test_sets_refused(self):
        wrong = [None, 0, True, "ab", {}, {of(0, 1): 1}, of(0, 1), (of(0, 1), None), [of(1, 0)], ([],), [(0, 1)]]
        for thing in wrong:
            self.refused(NoSpell, together, thing)
            for function in [both, but]:
                self.refused(NoSpell, function, thing, ())
                self.refused(NoSpell, function, [], thing)
                self.refused(NoSpell, function, thing, thing)
        for thing in otherwise((of(0, 1),)):
            fits = type(thing) in (tuple, list) and all(is_spell(one) for one in thing)
            if fits:
                self.told(together, thing)
            else:
                self.refused(NoSpell, together, thing)


if __name__ == "__main__":
    unittest.main()
