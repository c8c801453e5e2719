"""Point 8: lines, conditions, holding and failing through a spell."""

import itertools
import unittest
from fractions import Fraction

from shapes import as_number, as_pair
from things import Calls, chance
from wherewhen.errors import NoLine, NoMoment, NoSpell
from wherewhen.moving.lines import fails_through, holds_through, parts_of, where, worth
from wherewhen.numbers.spells import has, is_spell, is_straight, some_moment

WAYS = list(itertools.product([True, False], repeat=2))
NO_LINES = [(0, 1), ((0, 1),), ((0, 1), (1, 1), (0, 1)), [(0, 1), (1, 1)], ((0, 2), (1, 1)), ((0, 1), [1, 1]), None, 1,
            True, "ab", {}, ((True, 1), (1, 1)), ((0, 1), None), ()]
NO_SPELLS = [None, (), 1, "[0 1]", [(0, 1), True, (1, 1), True], ((1, 1), True, (0, 1), True), {},
             ((0, 1), 1, (1, 1), True)]


def line(start, slope):
    return (as_pair(start), as_pair(slope))


def of(begin, end, ways=(True, True)):
    return ((begin, 1), ways[0], (end, 1), ways[1])


GRID = [Fraction(k, 12) for k in range(0, 12 * 8 + 1)]
RISING = line(-2, 1)
FALLING = line(6, -2)


def moments_of(spell):
    return [] if spell is None else [moment for moment in GRID if has(spell, as_pair(moment))]


def holds_at(condition, moment):
    """What a condition is at one moment."""
    ((start, slope), above) = condition
    reckoned = as_number(start) + as_number(slope) * moment
    return reckoned > 0 or not above and reckoned == 0


def moments_about(condition, spell):
    """Enough moments of a spell to know whether a condition holds at each: ends, middle, near the ends."""
    begin, end = as_number(spell[0]), as_number(spell[2])
    found = [begin, end, (begin + end) / 2]
    start, slope = as_number(condition[0][0]), as_number(condition[0][1])
    if slope:
        zero = -start / slope
        found += [zero, (zero + begin) / 2, (zero + end) / 2]
    return [moment for moment in found if begin <= moment <= end and has(spell, as_pair(moment))]


class LinesTest(Calls, unittest.TestCase):

    def test_worth(self):
        self.assertEqual(self.told(worth, line(Fraction(1, 2), Fraction(-1, 3)), (3, 4)), (1, 4))
        self.assertEqual(self.told(worth, line(0, 0), (10 ** 6, 1)), (0, 1))
        self.assertEqual(self.told(worth, line(-5, 10 ** 60), (1, 7)), as_pair(-5 + Fraction(10 ** 60, 7)))
        self.assertEqual(self.told(worth, line(7, 3), (0, 1)), (7, 1))

    def test_worth_refused(self):
        for thing in NO_LINES:
            self.refused(NoLine, worth, thing, (0, 1))
            self.refused(NoLine, worth, thing, None)
        for thing in [None, 0, (-1, 1), (10 ** 6 + 1, 1), [0, 1], (2, 2), "0"]:
            self.assertIs(self.refused(NoMoment, worth, RISING, thing).moment, thing)

    def test_holds_and_fails_at_the_ends(self):
        for begin_worth, end_worth, above, ways in itertools.product([-1, 0, 1], [-1, 0, 1], [True, False], WAYS):
            condition = (line(begin_worth, Fraction(end_worth - begin_worth, 4)), above)
            spell = of(0, 4, ways)
            held = [holds_at(condition, moment) for moment in moments_about(condition, spell)]
            self.assertIs(self.truth(holds_through, condition, spell), all(held), (condition, spell))
            self.assertIs(self.truth(fails_through, condition, spell), not any(held), (condition, spell))

    def test_holds_told(self):
        self.assertTrue(holds_through((RISING, False), of(2, 5)))
        self.assertFalse(holds_through((RISING, True), of(2, 5)))
        self.assertTrue(holds_through((RISING, True), of(2, 5, (False, True))))
        self.assertTrue(fails_through((RISING, True), of(0, 2)))
        self.assertFalse(fails_through((RISING, False), of(0, 2)))
        self.assertTrue(fails_through((RISING, False), of(0, 2, (True, False))))
        for above, ways in itertools.product([True, False], WAYS):
            self.assertIs(holds_through((line(0, 0), above), of(1, 3, ways)), not above)
            self.assertIs(fails_through((line(0, 0), above), of(1, 3, ways)), above)
        self.assertTrue(holds_through((RISING, False), of(2, 2)))
        self.assertTrue(fails_through((RISING, True), of(2, 2)))

    def test_holds_by_chance(self):
        chances = chance(10)
        for _ in range(1500):
            condition, spell = self.some_condition(chances), self.some_spell(chances)
            held = [holds_at(condition, moment) for moment in moments_about(condition, spell)]
            self.assertIs(holds_through(condition, spell), all(held))
            self.assertIs(fails_through(condition, spell), not any(held))

    def some_condition(self, chances):
        start, slope = chances.randint(-6, 6), chances.randint(-3, 3)
        return (line(start, Fraction(slope, chances.choice([1, 2]))), chances.choice([True, False]))

    def some_spell(self, chances):
        begin, end = sorted([chances.randint(0, 8), chances.randint(0, 8)])
        return of(begin, end, chances.choice(WAYS) if begin < end else (True, True))

    def test_where(self):
        whole = of(0, 8)
        self.assertEqual(self.told(where, (), whole), whole)
        self.assertEqual(self.told(where, ((RISING, False),), whole), of(2, 8))
        self.assertEqual(self.told(where, ((RISING, True),), whole), of(2, 8, (False, True)))
        self.assertEqual(self.told(where, ((FALLING, False),), whole), of(0, 3))
        self.assertEqual(self.told(where, ((FALLING, True), (RISING, True)), whole), of(2, 3, (False, False)))
        self.assertIsNone(self.told(where, ((RISING, False),), of(0, 2, (True, False))))
        self.assertIsNone(self.told(where, ((RISING, True), (line(2, -1), False)), whole))
        self.assertEqual(self.told(where, ((RISING, False), (line(2, -1), False)), whole), of(2, 2))
        self.assertEqual(self.told(where, ((line(-1, 3), True),), whole), ((1, 3), False, (8, 1), True))
        self.assertEqual(self.told(where, ((RISING, False),), of(2, 5, (False, True))), of(2, 5, (False, True)))

    def test_where_by_chance(self):
        chances = chance(11)
        for _ in range(1200):
            conditions = tuple(self.some_condition(chances) for _ in range(chances.randint(0, 4)))
            spell = self.some_spell(chances)
            told = where(conditions, spell)
            self.assertTrue(told is None or is_spell(told))
            wanted = [moment for moment in moments_of(spell) if all(holds_at(one, moment) for one in conditions)]
            self.assertEqual(moments_of(told), wanted)

    def look_at_parts(self, conditions, spell):
        told = self.told(parts_of, conditions, spell)
        self.assertIs(type(told), tuple)
        for part, number in told:
            self.assertTrue(is_spell(part))
            if number is None:
                self.assertTrue(all(holds_through(condition, part) for condition in conditions))
            else:
                self.assertTrue(type(number) is int and 0 <= number < len(conditions))
                self.assertTrue(fails_through(conditions[number], part))
        for one, other in zip(told, told[1:]):
            self.assertTrue(is_straight(one[0], other[0]))
        self.assertEqual(told[0][0][:2] + told[-1][0][2:], spell)
        return told

    def test_parts_of(self):
        whole = of(0, 8)
        self.assertEqual(self.look_at_parts((), whole), ((whole, None),))
        self.look_at_parts(((RISING, False), (line(2, -1), False)), whole)
        told = parts_of(((RISING, False), (line(2, -1), False)), whole)
        self.assertEqual(told, ((of(0, 2, (True, False)), 0), (of(2, 2), None), (of(2, 8, (False, True)), 1)))
        at_the_edges = ((line(0, 1), True), (line(8, -1), True))
        told = self.look_at_parts(at_the_edges, whole)
        self.assertEqual(told, ((of(0, 0), 0), (of(0, 8, (False, False)), None), (of(8, 8), 1)))
        self.assertEqual(self.look_at_parts(((line(-1, 0), True),), of(3, 3)), ((of(3, 3), 0),))
        inward = tuple((line(-k, 1), False) for k in (1, 2, 3)) + tuple((line(k, -1), False) for k in (7, 6, 5))
        told = self.look_at_parts(inward, whole)
        self.assertEqual([number for part, number in told], [0, 1, 2, None, 5, 4, 3])
        self.look_at_parts(((RISING, True), (line(2, -1), False)), whole)

    def test_parts_of_by_chance(self):
        chances = chance(12)
        for _ in range(1200):
            conditions = tuple(self.some_condition(chances) for _ in range(chances.randint(0, 5)))
            spell = self.some_spell(chances)
            told = self.look_at_parts(conditions, spell)
            held = [part for part, number in told if number is None]
            self.assertEqual(held, [part for part in [where(conditions, spell)] if part is not None])
            self.assertTrue(has(spell, some_moment(told[0][0])))

    def test_refused(self):
        good = (RISING, False)
        wrong = [(RISING,), (RISING, 1), (RISING, None), [RISING, False], (RISING, False, True), RISING, None, 1, "ab", {}]
        for thing in wrong + [(one, True) for one in NO_LINES]:
            for function in [holds_through, fails_through]:
                self.refused(NoLine, function, thing, of(0, 1))
                self.refused(NoLine, function, thing, None)
            for function in [where, parts_of]:
                self.refused(NoLine, function, (thing,), of(0, 1))
                self.refused(NoLine, function, (good, thing), None)
        for thing in [{}, {good: 1}, "", "ab", 0, 1, None, True]:
            self.refused(NoLine, where, thing, of(0, 1))
            self.refused(NoLine, parts_of, thing, None)
        for thing in NO_SPELLS:
            for function in [holds_through, fails_through]:
                self.refused(NoSpell, function, good, thing)
            for function in [where, parts_of]:
                self.refused(NoSpell, function, (good,), thing)
                self.refused(NoSpell, function, (), thing)


if __name__ == "__main__":
    unittest.main()
