"""Things of all kinds, to be asked of, and helpers that several tests share."""

import copy
import random

SIXTY = 10 ** 60 - 1

PLAIN = [
    0, 1, -1, 2, 7, 10 ** 6, 10 ** 9, SIXTY, -SIXTY, True, False, None, "", "a", "ab", "0/1", "[0 1]", "row", "\n",
]

ROWS = [
    (), [], {}, (0,), (0, 1), [0, 1], {0: 1}, (1, 2, 3), (0, 1, 2, 3), ((0, 1), True, (1, 1), True, 0), ((),), ([],),
    ({},), ("a", "b"), (None, None), (True, True), (True, False), (0, 0), (0, -1), (2, 4), ("0", 1), (0, "1"),
    ((0, 1), (1, 1)), ((0, 1), True, (1, 1), True), [(0, 1), True, (1, 1), True], ((0, 1), 1, (1, 1), 1),
    {"begin": (0, 1)}, (((((((0,),),),),),),), [[[[[[[["deep"]]]]]]]], {0: {1: {2: [(), {"a": None}]}}},
    (((0, 1), True, (1, 1), True), "a"), ((((0, 1), True, (1, 1), True), "a"),),
    [(((0, 1), True, (1, 1), True), "a")], (SIXTY, SIXTY), (SIXTY, 1), ((0, 0),), ((0, 0), (1, 0)),
    ((0, 0), (1, 0), (0, 1)), [(0, 0)], ([0, 0],), (0, ((0, 0),), (0, 0)), (0, None, (0, 0)), (0, None, (0, 1)),
    ("row", "a", 0, None, (0, 0)), ("back", 0), ("meets",), ((0, 1), (0, 1), (0, 1)), (((0, 1), (1, 1)), True),
]

ANYTHING = PLAIN + ROWS


def otherwise(thing):
    """Whatever thing with some one part otherwise: put in its place, left out, doubled, or in a list."""
    found = [other for other in PLAIN + [(), [], {}, (0, 1), [0, 1]] if not same(other, thing)]
    if isinstance(thing, (tuple, list)):
        rows = list(thing)
        found.append(rows if isinstance(thing, tuple) else tuple(rows))
        found.append(dict(enumerate(rows)))
        for at in range(len(rows)):
            found.append(tuple(rows[:at] + rows[at + 1:]))
            found.append(tuple(rows[:at] + [rows[at]] + rows[at:]))
            for part in otherwise(rows[at]):
                found.append(tuple(rows[:at] + [part] + rows[at + 1:]))
    return found


def same(one, other):
    """Alike in kind, too: 1 and True are not the same."""
    if type(one) is not type(other):
        return False
    if isinstance(one, (tuple, list)):
        return len(one) == len(other) and all(same(a, b) for a, b in zip(one, other))
    if isinstance(one, dict):
        return same(list(one.items()), list(other.items()))
    return one == other


class Calls:
    """For a TestCase: calls that also look whether what is handed in is the same behind them."""

    def told(self, function, *handed, **named):
        before = copy.deepcopy((handed, named))
        told = function(*handed, **named)
        self.assertTrue(same([list(handed), named], [list(before[0]), before[1]]), function)
        again = function(*handed, **named)
        self.assertTrue(same(told, again) or told == again, "the same question has the same answer")
        return told

    def truth(self, function, *handed):
        told = self.told(function, *handed)
        self.assertIs(type(told), bool, (function, handed))
        return told

    def refused(self, kind, function, *handed, **named):
        before = copy.deepcopy((handed, named))
        with self.assertRaises(kind) as held:
            function(*handed, **named)
        self.assertIs(type(held.exception), kind)
        self.assertTrue(same([list(handed), named], [list(before[0]), before[1]]), function)
        return held.exception


def chance(seed):
    """A row of numbers by chance, the same in each run."""
    return random.Random(seed)
