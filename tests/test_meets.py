"""Point 10: two rows in a spell: touching, within, near, apart, spots."""

import unittest
from fractions import Fraction

from shapes import POINT, SIDE, SQUARE, as_number, as_pair, as_place, gap_of, holds, some_ring, standing, touch
from test_lines import NO_SPELLS, WAYS, of
from test_places import NO_PLACES
from test_rings import NO_DIRECTIONS
from test_rows import NO_ROWS, NOWHERE
from things import ANYTHING, Calls, chance, otherwise
from wherewhen.errors import NoLine, NoNumber, NoPlace, NoRow, NoSpell
from wherewhen.moving.meets import apart, are_spots, is_apart, near, spots, touching, within
from wherewhen.numbers.spells import has, is_spell
from wherewhen.shapes.places import is_place
from wherewhen.shapes.rings import is_direction, turned

END = 10 ** 6
STILL = (0, ((10, 0), (12, 0), (12, 2), (10, 2)), (0, 0))
COMING = (0, ((0, 0), (2, 0), (2, 2), (0, 2)), (1, 0))
WHOLE = of(0, 40)
GRID = [Fraction(k, 6) for k in range(0, 61)]
NO_FARS = [-1, 10 ** 9 + 1, True, False, None, "0", (0, 1), [0], {}]


def in_spell(spell, moment):
    return spell is not None and has(spell, as_pair(moment))


def least(corners, direction):
    return min(direction[0] * x + direction[1] * y for x, y in corners)


def greatest(corners, direction):
    return max(direction[0] * x + direction[1] * y for x, y in corners)


def moments_in(spell):
    """Moments of a spell, near its ends, too."""
    begin, end = as_number(spell[0]), as_number(spell[2])
    thin = (end - begin) / 10 ** 12
    moments = GRID + [begin, end, begin + thin, end - thin, (begin + end) / 2]
    return [moment for moment in moments if has(spell, as_pair(moment))]


def some_row(chances, most, pace):
    return (chances.randint(0, 10), some_ring(chances, most), (chances.randint(-pace, pace), chances.randint(-pace, pace)))


def some_spell(chances):
    begin, end = sorted(chances.choices(range(0, 11), k=2))
    return of(begin, end, chances.choice(WAYS) if begin < end else (True, True))


class MeetsTest(Calls, unittest.TestCase):

    def look_at_moments(self, told, spell, fits):
        """What is told is just the moments of the spell that fit, also about its own ends."""
        self.assertTrue(told is None or is_spell(told))
        moments = moments_in(spell)
        if told is not None:
            for end in (as_number(told[0]), as_number(told[2])):
                near_by = [end, end - Fraction(1, 10 ** 9), end + Fraction(1, 10 ** 9)]
                moments += [moment for moment in near_by if 0 <= moment <= END and in_spell(spell, moment)]
        for moment in moments:
            self.assertEqual(in_spell(told, moment), fits(moment), (told, spell, moment))

    def test_touching(self):
        self.assertEqual(self.told(touching, COMING, STILL, WHOLE), of(8, 12))
        self.assertEqual(self.told(touching, STILL, COMING, WHOLE), of(8, 12))
        self.assertEqual(self.told(touching, COMING, STILL, of(9, 11, (False, False))), of(9, 11, (False, False)))
        self.assertEqual(self.told(touching, COMING, STILL, of(10, 40)), of(10, 12))
        self.assertEqual(self.told(touching, COMING, STILL, of(0, 8)), of(8, 8))
        self.assertIsNone(self.told(touching, COMING, STILL, of(0, 8, (True, False))))
        self.assertIsNone(self.told(touching, COMING, STILL, of(12, 40, (False, True))))
        self.assertIsNone(self.told(touching, COMING, STILL, of(20, 30)))

    def test_touching_for_one_moment(self):
        corner = (0, ((0, 4), (2, 4), (2, 6), (0, 6)), (1, -1))
        self.assertEqual(self.told(touching, corner, (0, ((4, 0),), (0, 0)), WHOLE), of(4, 4))
        points = [(0, ((0, 0),), (3, 0)), (0, ((1, 7),), (0, -21))]
        self.assertEqual(self.told(touching, points[0], points[1], WHOLE), ((1, 3), True, (1, 3), True))

    def test_touching_that_move_alike_or_along(self):
        alike = (5, SQUARE, (7, -3))
        self.assertEqual(self.told(touching, alike, alike, WHOLE), WHOLE)
        self.assertIsNone(self.told(touching, alike, (5, ((5, 0),), (7, -3)), WHOLE))
        beside = (0, ((4, 0), (5, 0), (5, 1), (4, 1)), (0, 1))
        self.assertEqual(self.told(touching, (0, SQUARE, (0, 0)), beside, WHOLE), of(0, 4))
        self.assertEqual(self.told(touching, (0, SIDE, (2, 1)), (0, ((4, 2), (6, 3)), (-2, -1)), WHOLE),
                         ((0, 1), True, (3, 2), True))

    def test_within(self):
        outer = (0, ((10, 0), (20, 0), (20, 4), (10, 4)), (0, 0))
        self.assertEqual(self.told(within, COMING, outer, WHOLE), of(10, 18))
        self.assertIsNone(self.told(within, outer, COMING, WHOLE))
        self.assertEqual(self.told(within, COMING, COMING, WHOLE), WHOLE)
        self.assertEqual(self.told(within, (0, ((0, 0),), (2, 1)), (0, ((4, 2), (8, 4)), (0, 0)), WHOLE), of(2, 4))
        self.assertEqual(self.told(within, (0, ((0, 0),), (1, 1)), (0, ((6, 2),), (0, 1)), WHOLE), None)
        self.assertEqual(self.told(within, (0, ((0, 0),), (1, 1)), (0, ((6, 6),), (0, 0)), WHOLE), of(6, 6))

    def test_near(self):
        self.assertEqual(self.told(near, COMING, STILL, WHOLE), of(8, 12))
        self.assertEqual(self.told(near, COMING, STILL, WHOLE, far=0), of(8, 12))
        self.assertEqual(self.told(near, COMING, STILL, WHOLE, far=3), of(5, 15))
        self.assertEqual(self.told(near, STILL, COMING, WHOLE, far=10 ** 9), WHOLE)
        self.assertIsNone(self.told(near, COMING, STILL, of(0, 5, (True, False)), far=3))
        upward = (0, ((11, -9),), (0, 2))
        self.assertEqual(self.told(near, upward, STILL, WHOLE, far=1), of(4, 6))
        with self.assertRaises(TypeError):
            near(COMING, STILL, WHOLE, 3)

    def test_by_chance(self):
        chances = chance(14)
        found = 0
        for _ in range(500):
            row, other, spell = some_row(chances, 4, 2), some_row(chances, 4, 2), some_spell(chances)
            far = chances.randint(0, 4)
            told = touching(row, other, spell)
            found += told is not None
            self.look_at_moments(told, spell, lambda t: touch(standing(row, t), standing(other, t)))
            self.look_at_moments(near(row, other, spell, far=far), spell,
                                 lambda t: gap_of(standing(row, t), standing(other, t)) <= far)
            self.look_at_moments(within(row, other, spell), spell,
                                 lambda t: all(holds(standing(other, t), corner) for corner in standing(row, t)))
        self.assertTrue(100 < found < 400, found)

    def look_at_apart(self, row, other, spell):
        """A direction where they are apart all through, else none, and spots just where they touch all through."""
        met = touching(row, other, spell)
        if met is None:
            direction = self.told(apart, row, other, spell)
            self.assertTrue(is_direction(direction))
            self.assertTrue(self.truth(is_apart, row, other, spell, direction))
            for moment in moments_in(spell):
                self.assertLess(greatest(standing(row, moment), direction), least(standing(other, moment), direction))
        else:
            self.refused(NoLine, apart, row, other, spell)
        if met == spell:
            told = self.told(spots, row, other, spell)
            self.assertTrue(self.truth(are_spots, row, other, spell, told))
            for moment, place in zip((spell[0], spell[2]), told):
                self.assertTrue(is_place(place))
                for one in (row, other):
                    self.assertTrue(holds(standing(one, as_number(moment)), as_place(place)))
        else:
            self.refused(NoPlace, spots, row, other, spell)
        return met

    def test_apart_and_spots_by_chance(self):
        chances = chance(15)
        all_through = 0
        for count in range(1200):
            most = chances.choice([1, 2, 4])
            row, other, spell = some_row(chances, most, 2), some_row(chances, most, 2), some_spell(chances)
            if count % 3 == 0:
                other = (row[0], other[1], row[2])
            all_through += self.look_at_apart(row, other, spell) == spell
        self.assertTrue(100 < all_through < 1000, all_through)

    def test_apart_just_about_a_touch(self):
        chances = chance(16)
        looked = 0
        for _ in range(600):
            row, other = some_row(chances, 3, 2), some_row(chances, 3, 2)
            met = touching(row, other, of(0, 10))
            if met is None:
                continue
            for begin, with_begin, end, with_end in [((0, 1), True, met[0], False), (met[2], False, (10, 1), True),
                                                     ((0, 1), False, met[0], False), (met[2], False, (10, 1), False)]:
                if begin != end:
                    looked += 1
                    self.assertIsNone(self.look_at_apart(row, other, (begin, with_begin, end, with_end)))
            self.look_at_apart(row, other, (met[0], True, met[0], True))
            if met[0] != met[2]:
                self.look_at_apart(row, other, (met[0], False, met[2], False))
        self.assertGreater(looked, 200)

    def test_apart_across_the_pace_alone(self):
        # Two thin rings pass one another: no fence of theirs parts them all through, a direction across the pace does.
        row = (0, ((0, 0), (1, 2)), (3, 3))
        other = (0, ((20, 16), (21, 18)), (0, 0))
        direction = self.told(apart, row, other, WHOLE)
        self.assertEqual(direction[0] * 3 + direction[1] * 3, 0)
        self.look_at_apart(row, other, WHOLE)
        for fence in [(2, -1), (-2, 1), (1, 2), (-1, -2)]:
            self.assertFalse(self.truth(is_apart, row, other, WHOLE, fence))

    def test_apart_across_the_axes_alone(self):
        row, other, pace = ((0, 0), (1, 2)), ((20, 3), (21, 5)), (1, 0)
        for _ in range(4):
            row, other, pace = turned(row), turned(other), turned((pace,))[0]
            direction = self.told(apart, (0, row, pace), (0, other, (0, 0)), WHOLE)
            self.assertEqual(direction[0] * pace[0] + direction[1] * pace[1], 0)
            self.look_at_apart((0, row, pace), (0, other, (0, 0)), WHOLE)
            self.look_at_apart((0, row, (0, 0)), (0, other, (-pace[0], -pace[1])), WHOLE)

    def test_apart_of_points(self):
        # Two corners that meet just at an end that is out, moving by neither axis.
        row, other = (0, ((0, 0),), (2, 3)), (0, ((8, 12),), (0, 0))
        self.assertIsNone(self.look_at_apart(row, other, of(0, 4, (True, False))))
        self.assertIsNone(self.look_at_apart(row, other, of(4, 9, (False, True))))
        self.assertEqual(self.look_at_apart(row, other, of(0, 4)), of(4, 4))
        self.assertIsNone(self.look_at_apart((0, ((0, 0),), (3, 3)), (0, ((7, 6),), (0, 0)), WHOLE))

    def test_is_apart(self):
        spell = of(0, 8, (True, False))
        for direction, wanted in [((1, 0), True), ((-1, 0), False), ((0, 1), False), ((7, 0), True), ((1, 1), False)]:
            self.assertIs(self.truth(is_apart, COMING, STILL, spell, direction), wanted)
        self.assertFalse(self.truth(is_apart, COMING, STILL, of(0, 8), (1, 0)))
        self.assertFalse(self.truth(is_apart, STILL, COMING, spell, (1, 0)))
        self.assertTrue(self.truth(is_apart, STILL, COMING, spell, (-1, 0)))
        for thing in NO_DIRECTIONS + ANYTHING:
            wanted = is_direction(thing) and thing[0] > 0 and is_apart(COMING, STILL, spell, thing)
            self.assertIs(self.truth(is_apart, COMING, STILL, spell, thing), wanted)

    def test_is_apart_of_what_touches(self):
        for thing in [(1, 0), (-1, 0), (0, 0), None]:
            self.assertIs(self.truth(is_apart, COMING, STILL, of(8, 12), thing), False)

    def test_spots_at_ends_that_are_out(self):
        for ways in WAYS:
            told = self.told(spots, COMING, STILL, of(8, 12, ways))
            for place, x in zip(told, (10, 12)):
                self.assertEqual(as_place(place)[0], x)
            self.refused(NoPlace, spots, COMING, STILL, of(7, 12, ways))
            self.refused(NoPlace, spots, COMING, STILL, of(8, 13, ways))
            self.refused(NoPlace, spots, COMING, STILL, of(0, 40, ways))

    def test_are_spots(self):
        spell = of(8, 12, (False, False))
        good = (((10, 1), (0, 1)), ((12, 1), (2, 1)))
        self.assertTrue(self.truth(are_spots, COMING, STILL, spell, good))
        self.assertTrue(self.truth(are_spots, STILL, COMING, spell, (((10, 1), (1, 3)), ((12, 1), (1, 2)))))
        self.assertFalse(self.truth(are_spots, COMING, STILL, spell, good[::-1]))
        self.assertFalse(self.truth(are_spots, COMING, STILL, spell, (good[0], good[0])))
        self.assertFalse(self.truth(are_spots, COMING, STILL, spell, (((11, 1), (0, 1)), good[1])))
        self.assertFalse(self.truth(are_spots, COMING, STILL, spell, (good[0], ((12, 1), (5, 2)))))
        self.assertFalse(self.truth(are_spots, COMING, STILL, of(0, 1), good))
        in_one = (((9, 1), (1, 1)), good[1])
        self.assertFalse(self.truth(are_spots, COMING, STILL, spell, in_one))
        self.assertFalse(self.truth(are_spots, STILL, COMING, spell, in_one))
        in_one = (good[0], ((10, 1), (1, 1)))
        self.assertFalse(self.truth(are_spots, COMING, STILL, spell, in_one))
        self.assertFalse(self.truth(are_spots, STILL, COMING, spell, in_one))
        for thing in otherwise(good) + ANYTHING + [(place, good[1]) for place in NO_PLACES]:
            told = self.truth(are_spots, COMING, STILL, spell, thing)
            fits = type(thing) is tuple and len(thing) == 2 and all(is_place(place) for place in thing)
            if fits:
                ends = [(standing(row, t), as_place(place)) for t, place in zip((8, 12), thing) for row in (COMING, STILL)]
                fits = all(holds(corners, place) for corners, place in ends)
            self.assertIs(told, fits, thing)

    def test_spots_at_fractions(self):
        row, other = (1, ((0, 0), (5, 1), (2, 6)), (3, -2)), (4, ((9, -3), (13, -9), (12, 2)), (-1, 1))
        met = touching(row, other, WHOLE)
        self.assertTrue(met[0][1] > 1 or met[2][1] > 1)
        self.assertEqual(self.look_at_apart(row, other, met), met)

    def test_refused(self):
        calls = [(touching, []), (within, []), (near, []), (apart, []), (spots, []), (is_apart, [None]),
                 (is_apart, [(1, 0)]), (are_spots, [None])]
        for function, last in calls:
            for thing in NO_ROWS + [NOWHERE]:
                self.refused(NoRow, function, thing, STILL, WHOLE, *last)
                self.refused(NoRow, function, STILL, thing, WHOLE, *last)
                self.refused(NoRow, function, STILL, thing, None, *last)
            for thing in NO_SPELLS:
                self.refused(NoSpell, function, COMING, STILL, thing, *last)
            self.refused(NoRow, function, NOWHERE, NOWHERE, None, *last)

    def test_near_refused(self):
        for thing in NO_FARS:
            self.assertIs(self.refused(NoNumber, near, COMING, STILL, WHOLE, far=thing).number, thing)
            self.refused(NoSpell, near, COMING, STILL, None, far=thing)
            self.refused(NoRow, near, COMING, NOWHERE, WHOLE, far=thing)
            self.refused(NoRow, near, None, STILL, WHOLE, far=thing)

    def test_corners_alone(self):
        self.assertEqual(touching((0, POINT, (0, 0)), (9, POINT, (0, 0)), WHOLE), WHOLE)
        self.assertIsNone(self.look_at_apart((0, POINT, (1, 0)), (0, ((3, 2),), (1, 0)), WHOLE))


if __name__ == "__main__":
    unittest.main()
