"""Point 3: fractions."""

import unittest
from fractions import Fraction

from things import ANYTHING, SIXTY, Calls, chance, otherwise
from wherewhen.errors import NoFraction
from wherewhen.numbers.fractions import by, floor_of, fraction, is_fraction, is_less, minus, plus, times

SOME = [(0, 1), (1, 1), (-1, 1), (1, 2), (-1, 2), (3, 2), (-7, 3), (5, 6), (SIXTY, 1), (-SIXTY, 10), (1, SIXTY),
        (7 ** 300, 2 ** 500), (10 ** 6, 1)]
NOT = [(0, 2), (2, 2), (2, 4), (1, 0), (0, 0), (1, -1), (-1, -2), (True, 1), (1, True), (False, True), (1,), (1, 2, 1),
       [1, 2], "12", {1: 2}, (1, None), ("1", "2"), ((1, 2), 1), (SIXTY, SIXTY), 1, True, None]


def as_fraction(one):
    return Fraction(one[0], one[1])


def as_pair(one):
    return (one.numerator, one.denominator)


class FractionsTest(Calls, unittest.TestCase):

    def test_is_fraction(self):
        for one in SOME:
            self.assertTrue(self.truth(is_fraction, one))
        for thing in NOT:
            self.assertFalse(self.truth(is_fraction, thing), thing)

    def test_is_fraction_of_anything(self):
        for thing in ANYTHING + otherwise((1, 2)):
            told = self.truth(is_fraction, thing)
            fits = isinstance(thing, tuple) and len(thing) == 2 and all(type(n) is int for n in thing)
            self.assertEqual(told, fits and thing[1] > 0 and as_pair(as_fraction(thing)) == thing, thing)

    def test_fraction_in_lowest_terms(self):
        self.assertEqual(self.told(fraction, 5), (5, 1))
        self.assertEqual(self.told(fraction, 0, under=-7), (0, 1))
        self.assertEqual(self.told(fraction, 6, under=4), (3, 2))
        self.assertEqual(self.told(fraction, 6, under=-4), (-3, 2))
        self.assertEqual(self.told(fraction, -6, under=-4), (3, 2))
        self.assertEqual(self.told(fraction, -6, under=4), (-3, 2))
        self.assertEqual(self.told(fraction, 3 * 7 ** 400, under=6 * 7 ** 401), (1, 14))

    def test_fraction_refused(self):
        for thing in [True, False, None, "1", (1, 1), [1], {}]:
            self.refused(NoFraction, fraction, thing)
            self.refused(NoFraction, fraction, 1, under=thing)
        for over in [0, 1, -1, SIXTY]:
            self.refused(NoFraction, fraction, over, under=0)

    def test_under_is_by_name_alone(self):
        with self.assertRaises(TypeError):
            fraction(1, 2)

    def test_reckoning(self):
        chances = chance(1)
        pairs = SOME + [as_pair(Fraction(chances.randint(-99, 99), chances.randint(1, 30))) for _ in range(40)]
        for one in pairs:
            self.assertEqual(self.told(floor_of, one), as_fraction(one).__floor__())
            for other in pairs:
                a, b = as_fraction(one), as_fraction(other)
                self.assertEqual(plus(one, other), as_pair(a + b))
                self.assertEqual(minus(one, other), as_pair(a - b))
                self.assertEqual(times(one, other), as_pair(a * b))
                self.assertIs(is_less(one, other), a < b)
                if b:
                    self.assertEqual(by(one, other), as_pair(a / b))

    def test_floor_below_0(self):
        self.assertEqual(floor_of((-1, 2)), -1)
        self.assertEqual(floor_of((-4, 1)), -4)
        self.assertEqual(floor_of((7, 2)), 3)

    def test_by_0(self):
        self.refused(NoFraction, by, (1, 1), (0, 1))
        self.refused(NoFraction, by, (0, 1), (0, 1))
        self.assertEqual(by((1, 2), (-3, 1)), (-1, 6))

    def test_is_less(self):
        self.assertIs(is_less((1, 3), (1, 2)), True)
        self.assertIs(is_less((1, 2), (1, 3)), False)
        self.assertIs(is_less((1, 2), (1, 2)), False)
        self.assertIs(is_less((-1, 2), (-1, 3)), True)
        for thing in NOT:
            self.assertFalse(self.truth(is_less, (-SIXTY, 1), thing))
            self.refused(NoFraction, is_less, thing, (1, 1))
            self.refused(NoFraction, is_less, thing, None)

    def test_refused(self):
        for thing in NOT:
            self.refused(NoFraction, floor_of, thing)
            for function in [plus, minus, times, by]:
                self.refused(NoFraction, function, thing, (1, 2))
                self.refused(NoFraction, function, (1, 2), thing)
                self.refused(NoFraction, function, thing, thing)


if __name__ == "__main__":
    unittest.main()
