"""Books by chance, and what they are answered, reckoned another way than the package does."""

from fractions import Fraction

from shapes import SQUARE, TRIANGLE, gap_of, holds, some_ring, standing, touch

END = 10 ** 6
LETTERS = ["a", "b", "ab", "c", "zz", "ba", "k", "q", "name", "eightlet", "y", "z"]


def row(name, moment, ring, pace=(0, 0)):
    return ("row", name, moment, ring, pace)


def counting(tellings):
    """The tellings of rows that aren't taken back."""
    back = [telling[1] for telling in tellings if telling[0] == "back"]
    return [telling for number, telling in enumerate(tellings) if telling[0] == "row" and number not in back]


def names_of(tellings):
    return sorted({telling[1] for telling in counting(tellings)})


def standing_row(tellings, name, moment):
    """The row of a thing at a moment, by what stands in the document alone."""
    found = None
    for telling in counting(tellings):
        if telling[1] == name and telling[2] <= moment and (found is None or found[2] <= telling[2]):
            found = telling
    return None if found is None else found[2:]


def things_at(tellings, moment):
    """Names with the corners as they stand, of the things that are not nowhere."""
    found = {}
    for name in names_of(tellings):
        told = standing_row(tellings, name, moment)
        if told is not None and told[1] is not None:
            found[name] = standing(told, moment)
    return found


def gap_order(tellings, ring, moment):
    things = things_at(tellings, moment)
    return tuple(sorted(things, key=lambda name: (gap_of(things[name], ring), name)))


def answer_at(tellings, question, moment):
    """What a question is answered at a moment (a fraction of Python's)."""
    things = things_at(tellings, moment)
    word = question[0]
    if word == "touching":
        return tuple(name for name in things if touch(things[name], question[1]))
    if word == "within":
        return tuple(name for name in things if all(holds(question[1], corner) for corner in things[name]))
    if word == "holding":
        return tuple(name for name in things if all(holds(things[name], corner) for corner in question[1]))
    if word == "nearest":
        return gap_order(tellings, question[1], moment)[:question[2]]
    if word == "count":
        size, (level, i, j) = 2 ** question[1], question[1:]
        return sum(x // size == i and y // size == j for (x, y), *_ in things.values())
    pairs = [(one, other) for one in things for other in things if one < other]
    if word == "meets":
        return tuple(pair for pair in pairs if touch(things[pair[0]], things[pair[1]]))
    return tuple(pair for pair in pairs if gap_of(things[pair[0]], things[pair[1]]) <= question[1])


def some_tellings(chances, many, most=6, pace=2, last=12, names=4):
    """Tellings by chance: rows with and without ring, told again, taken back."""
    told = []
    free = []
    while len(told) < many:
        if free and chances.random() < 0.2:
            told.append(("back", free.pop(chances.randrange(len(free)))))
            continue
        free.append(len(told))
        name, moment = chances.choice(LETTERS[:names]), chances.randint(0, last)
        if chances.random() < 0.15:
            told.append(row(name, moment, None))
        else:
            speed = (chances.randint(-pace, pace), chances.randint(-pace, pace))
            told.append(row(name, moment, some_ring(chances, most), speed))
    return told


def some_questions(chances, most=6):
    """Each question once, by chance."""
    level = chances.randint(0, 3)
    return [("touching", some_ring(chances, most)), ("within", some_ring(chances, 2 * most, 4)),
            ("holding", some_ring(chances, 1)), ("nearest", some_ring(chances, most), chances.randint(1, 4)),
            ("meets",), ("close", chances.randint(0, 4)),
            ("count", level, chances.randint(-8, 8) >> level, chances.randint(-8, 8) >> level)]


def some_moments(chances, many, last=14):
    return [Fraction(chances.randint(0, last * under), under) for under in chances.choices([1, 2, 3, 7], k=many)]


NO_NAMES = ["", "A", "aA", "a1", "a b", " a", "a\n", "abcdefghi", "\u00e9", "\u00df", "\u0430", None, 0, True, ("a",), ["a"],
            {"a": 1}, "-", "a_b"]
NO_TELLINGS = [(), None, 0, True, "row", "back", ("row",), ("back",), ["back", 0], ("back", -1), ("back", True),
               ("back", None), ("back", "0"), ("back", 0, 0), ("back", (0, 1)), row("A", 0, SQUARE), row("", 0, SQUARE),
               row("a", -1, SQUARE), row("a", END + 1, SQUARE), row("a", True, SQUARE), row("a", (0, 1), SQUARE),
               row("a", 0, SQUARE[::-1]), row("a", 0, ()), row("a", 0, list(SQUARE)), row("a", 0, None, (0, 1)),
               row("a", 0, SQUARE, (0, 10 ** 6 + 1)), row("a", 0, SQUARE, [0, 0]), row("a", 0, SQUARE, None),
               list(row("a", 0, SQUARE)), row("a", 0, SQUARE)[:4], row("a", 0, SQUARE) + (0,), ("a", 0, SQUARE, (0, 0)),
               ("tell",) + row("a", 0, SQUARE)[1:], ("Row",) + row("a", 0, SQUARE)[1:], {"row": 0}, (0, "a", 0, None, (0, 0))]
NO_QUESTIONS = [(), None, 0, True, "meets", ["meets"], ("meets", 0), ("meets", ()), ("close",), ("close", -1),
                ("close", 10 ** 9 + 1), ("close", True), ("close", None), ("close", (0, 1)), ("close", 0, 0), ("touching",),
                ("touching", ()), ("touching", None), ("within", SQUARE[::-1]), ("holding", list(SQUARE)),
                ("touching", SQUARE, 1), ["touching", SQUARE], ("nearest", SQUARE), ("nearest", SQUARE, 0),
                ("nearest", SQUARE, 13), ("nearest", SQUARE, True), ("nearest", None, 1), ("nearest", 1, SQUARE),
                ("nearest", SQUARE, 1, 1), ("count", 0, 0), ("count", -1, 0, 0), ("count", 31, 0, 0), ("count", True, 0, 0),
                ("count", 0, 10 ** 9 + 1, 0), ("count", 0, 0, -10 ** 9 - 1), ("count", 0, False, 0), ("count", 0, 0, None),
                ("count", 0, 0, 0, 0), ("counts", 0, 0, 0), ("Touching", SQUARE), (None, SQUARE), (0,), (("meets",),),
                {"meets": 0}, ("touching", {}), ("", SQUARE)]
QUESTIONS = [("touching", SQUARE), ("within", SQUARE), ("holding", TRIANGLE), ("nearest", SQUARE, 2), ("meets",),
             ("close", 3), ("count", 2, 0, -1)]
