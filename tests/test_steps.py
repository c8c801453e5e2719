"""Point 4: steps."""

import unittest

from things import ANYTHING, Calls, chance, otherwise
from wherewhen.errors import NoMoment, NoSpell, NoSteps
from wherewhen.numbers.fractions import fraction
from wherewhen.numbers.spells import has, is_spell, is_straight
from wherewhen.numbers.steps import answer_in, are_steps, cut_to, laid_over, steps_of, stretch_of


def of(begin, end, ways="[]"):
    return ((begin, 1), ways[0] == "[", (end, 1), ways[1] == "]")


STEPS = ((of(0, 2, "[)"), "a"), (of(2, 2), "b"), (of(2, 5, "(]"), "a"))
NO_STEPS = [(), [], {}, None, 1, True, "ab", list(STEPS), (STEPS[0], STEPS[2]), (STEPS[1], STEPS[0]), (STEPS[0][0],),
            (list(STEPS[0]),), ((of(0, 1), "a", "b"),), ((of(1, 0), "a"),), ((None, "a"),), ((of(0, 1),),),
            ((of(0, 1), "a"), (of(1, 2), "b")), ((of(0, 1, "[)"), "a"), (of(1, 2, "(]"), "b")),
            ((of(0, 1), "a"), (of(1, 2, "(]"), "a")), ((of(0, 1), 1), (of(1, 2, "(]"), True)),
            ((of(0, 1), [1]), (of(1, 2, "(]"), [True])), STEPS + (STEPS[0],), STEPS[::-1]]


def some_steps(chances, most, answers):
    """Steps by chance over a stretch within 0 to most."""
    edges = [(moment, behind) for moment in range(most + 1) for behind in (False, True)]
    cuts = sorted(chances.sample(edges, chances.randint(2, 6)))
    pairs = []
    for (begin, above), (end, behind) in zip(cuts, cuts[1:]):
        pairs.append((((begin, 1), not above, (end, 1), behind), chances.choice(answers)))
    return steps_of(pairs)


GRID = [fraction(k, under=2) for k in range(0, 17)]


def at_each(steps):
    return {moment: answer for moment in GRID for spell, answer in steps if has(spell, moment)}


class StepsTest(Calls, unittest.TestCase):

    def test_are_steps(self):
        self.assertTrue(self.truth(are_steps, STEPS))
        self.assertTrue(self.truth(are_steps, ((of(3, 3), None),)))
        for answer in ANYTHING:
            self.assertTrue(self.truth(are_steps, ((of(0, 1), answer), (of(1, 2, "(]"), ("other", answer)))))
        for thing in NO_STEPS:
            self.assertFalse(self.truth(are_steps, thing), thing)

    def test_are_steps_of_anything(self):
        for thing in ANYTHING:
            self.assertEqual(self.truth(are_steps, thing), thing == ((of(0, 1), "a"),), thing)
        for thing in otherwise(STEPS):
            if self.truth(are_steps, thing):
                self.assertIs(type(thing), tuple)
                for one in thing:
                    self.assertTrue(type(one) is tuple and len(one) == 2 and is_spell(one[0]))
                for one, other in zip(thing, thing[1:]):
                    self.assertTrue(is_straight(one[0], other[0]) and one[1] != other[1])

    def test_steps_of(self):
        self.assertEqual(self.told(steps_of, STEPS), STEPS)
        self.assertEqual(self.told(steps_of, list(STEPS)), STEPS)
        pairs = [(of(0, 1, "[)"), 1), (of(1, 1), True), (of(1, 2, "()"), 1), (of(2, 3), 0), (of(3, 4, "(]"), False)]
        told = self.told(steps_of, pairs)
        self.assertEqual(told, ((of(0, 2, "[)"), 1), (of(2, 4), 0)))
        self.assertEqual([type(answer) for spell, answer in told], [int, int])

    def test_the_first_answer_stays_the_very_thing(self):
        first, other, last = [1, {}], [True, {}], {"a": [1]}
        told = steps_of([(of(0, 1), first), (of(1, 2, "(]"), other), (of(2, 3, "(]"), last)])
        self.assertIs(told[0][1], first)
        self.assertIs(told[1][1], last)
        self.assertEqual(len(told), 2)
        self.assertIs(answer_in(told, (3, 1)), last)
        self.assertIs(cut_to(told, of(2, 3))[0][1], first)

    def test_steps_of_refused(self):
        for thing in NO_STEPS:
            alike = type(thing) in (tuple, list) and thing and all(
                type(one) is tuple and len(one) == 2 and is_spell(one[0]) for one in thing)
            if alike and all(is_straight(one[0], other[0]) for one, other in zip(thing, thing[1:])):
                self.assertTrue(are_steps(self.told(steps_of, thing)))
            else:
                self.refused(NoSteps, steps_of, thing)
        self.refused(NoSteps, steps_of, [list(STEPS[0])])
        self.refused(NoSteps, steps_of, dict(STEPS[:2]))

    def test_stretch_of(self):
        self.assertEqual(self.told(stretch_of, STEPS), of(0, 5))
        self.assertEqual(self.told(stretch_of, ((of(3, 4, "()"), 0),)), of(3, 4, "()"))
        for thing in NO_STEPS:
            self.refused(NoSteps, stretch_of, thing)

    def test_answer_in(self):
        for moment, answer in [((0, 1), "a"), ((3, 2), "a"), ((2, 1), "b"), ((5, 2), "a"), ((5, 1), "a")]:
            self.assertEqual(self.told(answer_in, STEPS, moment), answer)
        open_steps = ((of(1, 2, "()"), "a"),)
        for moment in [(1, 1), (2, 1), (0, 1), (3, 1), (-1, 1), (3, 2, 1), None, True, 1, "1", [1, 1], (10 ** 7, 1)]:
            self.assertIs(self.refused(NoMoment, answer_in, open_steps, moment).moment, moment)
        for thing in NO_STEPS:
            self.refused(NoSteps, answer_in, thing, (0, 1))
            self.refused(NoSteps, answer_in, thing, None)

    def test_cut_to(self):
        self.assertEqual(self.told(cut_to, STEPS, of(0, 5)), STEPS)
        self.assertEqual(self.told(cut_to, STEPS, of(0, 10 ** 6)), STEPS)
        self.assertEqual(self.told(cut_to, STEPS, of(2, 2)), (STEPS[1],))
        self.assertEqual(self.told(cut_to, STEPS, of(5, 9)), ((of(5, 5), "a"),))
        self.assertEqual(self.told(cut_to, STEPS, of(1, 2, "(]")), ((of(1, 2, "()"), "a"), STEPS[1]))
        self.refused(NoSteps, cut_to, STEPS, of(5, 9, "(]"))
        self.refused(NoSteps, cut_to, STEPS, of(6, 9))

    def test_cut_to_refused(self):
        for thing in NO_STEPS:
            self.refused(NoSteps, cut_to, thing, of(0, 1))
            self.refused(NoSteps, cut_to, thing, None)
        for thing in [None, (), of(1, 0), list(of(0, 1)), 1, "[0 1]", {}]:
            self.refused(NoSpell, cut_to, STEPS, thing)

    def test_laid_over(self):
        inner = ((of(1, 3), "c"),)
        self.assertEqual(self.told(laid_over, STEPS, inner), ((of(0, 1, "[)"), "a"), (of(1, 3), "c"), (of(3, 5, "(]"), "a")))
        self.assertEqual(self.told(laid_over, STEPS, ((of(2, 2), "a"),)), ((of(0, 5), "a"),))
        self.assertEqual(self.told(laid_over, STEPS, STEPS), STEPS)
        self.assertEqual(self.told(laid_over, STEPS, ((of(0, 5), "d"),)), ((of(0, 5), "d"),))
        self.assertEqual(self.told(laid_over, STEPS, ((of(0, 0), "d"),)), ((of(0, 0), "d"), (of(0, 2, "()"), "a")) + STEPS[1:])
        self.assertEqual(self.told(laid_over, STEPS, ((of(5, 5), "d"),)), STEPS[:2] + ((of(2, 5, "()"), "a"), (of(5, 5), "d")))

    def test_laid_over_keeps_the_first(self):
        old, new = [1], [True]
        told = laid_over(((of(0, 5), old),), ((of(2, 3), new),))
        self.assertEqual(told, ((of(0, 5), [1]),))
        self.assertIs(told[0][1], old)
        told = laid_over(((of(0, 5), old),), ((of(0, 3), new),))
        self.assertIs(told[0][1], new)

    def test_laid_over_refused(self):
        for thing in NO_STEPS:
            self.refused(NoSteps, laid_over, thing, STEPS)
            self.refused(NoSteps, laid_over, STEPS, thing)
        half_open = ((of(0, 5, "()"), "a"),)
        for spell in [of(0, 5), of(0, 1), of(5, 5), of(4, 6), of(6, 7), of(0, 5, "(]"), of(0, 5, "[)")]:
            self.refused(NoSteps, laid_over, half_open, ((spell, "b"),))

    def test_by_chance(self):
        chances = chance(4)
        for _ in range(800):
            steps, newer = some_steps(chances, 8, [0, 1]), some_steps(chances, 8, [1, 2])
            self.assertTrue(are_steps(steps))
            old, new = at_each(steps), at_each(newer)
            stretch = stretch_of(newer)
            try:
                cut = at_each(cut_to(steps, stretch))
            except NoSteps:
                cut = {}
            self.assertEqual(cut, {moment: old[moment] for moment in old if moment in new})
            if all(moment in old for moment in new):
                told = laid_over(steps, newer)
                self.assertTrue(are_steps(told))
                self.assertEqual(at_each(told), {**old, **new})
            else:
                self.refused(NoSteps, laid_over, steps, newer)


if __name__ == "__main__":
    unittest.main()
