"""What is a paper, looked at with Python's fractions, another way than the package's judge does."""

from fractions import Fraction

from books import counting, names_of, standing_row
from shapes import as_number, box, holds, standing
from wherewhen.numbers.spells import is_spell, is_straight
from wherewhen.shapes.places import is_place


def whole(thing):
    return type(thing) is int


def through(line, spell, strict):
    """Whether what is linear in time is at least 0 at each moment of a spell, or above 0."""
    begin, end = as_number(spell[0]), as_number(spell[2])
    if line(begin) < 0 or line(end) < 0:
        return False
    moments = [(begin + end) / 2] + [begin] * spell[1] + [end] * spell[3]
    return not strict or all(line(moment) > 0 for moment in moments)


def rows_in(told, spell):
    """Names with their rows through a spell, or None where it is not in one way of each."""
    begin, end = as_number(spell[0]), as_number(spell[2])
    found = {}
    for name in names_of(told):
        for telling in counting(told):
            moment = telling[2]
            if telling[1] == name and begin < moment and (moment < end or moment == end and spell[3]):
                return None
            if telling[1] == name and begin == moment and not spell[1] and begin == end:
                raise AssertionError("no spell")
        row = standing_row(told, name, begin if begin == end else (begin + end) / 2)
        found[name] = row if row is not None and row[1] is not None else None
    return found


def fences(ring):
    if len(ring) == 1:
        return [(1, 0), (-1, 0), (0, 1), (0, -1)]
    found = [(b[1] - a[1], a[0] - b[0]) for a, b in zip(ring, ring[1:] + ring[:1])]
    if len(ring) == 2:
        a, b = ring
        found += [(b[0] - a[0], b[1] - a[1]), (a[0] - b[0], a[1] - b[1])]
    return found


def along(direction, place):
    return direction[0] * place[0] + direction[1] * place[1]


def gap_line(row, other, number):
    def line(moment):
        a, b = box(standing(row, moment)), box(standing(other, moment))
        return [0, b[0] - a[2], a[0] - b[2], b[1] - a[3], a[1] - b[3]][number]
    return line


def touch_mark(row, other, spell, mark):
    if mark[0] == "spots" and len(mark) == 3 and all(is_place(place) for place in mark[1:]):
        pairs = [(spell[0], mark[1]), (spell[2], mark[2])]
        if all(holds(standing(one, as_number(t)), [as_number(x) for x in place])
               for t, place in pairs for one in (row, other)):
            return True
    if mark[0] == "line" and len(mark) == 2 and type(mark[1]) is tuple and len(mark[1]) == 2:
        way = mark[1]
        if whole(way[0]) and whole(way[1]) and way != (0, 0):
            def line(moment):
                return (min(along(way, corner) for corner in standing(other, moment))
                        - max(along(way, corner) for corner in standing(row, moment)))
            if through(line, spell, True):
                return False
    return None


def within_mark(row, other, spell, mark):
    def line(corner, fence, sign):
        way = fences(other[1])[fence]

        def found(moment):
            reach = max(along(way, place) for place in standing(other, moment))
            return sign * (along(way, standing(row, moment)[corner]) - reach)
        return found
    corners, many = range(len(row[1])), range(len(fences(other[1])))
    if mark == ("in",) and all(through(line(c, f, -1), spell, False) for c in corners for f in many):
        return True
    if len(mark) == 3 and mark[0] == "out" and whole(mark[1]) and whole(mark[2]) and mark[1] in corners and mark[2] in many:
        return False if through(line(mark[1], mark[2], 1), spell, True) else None
    return None


def numbered_mark(inside, spell, mark):
    """By pairs (line, strict) that all hold where a thing is in; the turned one holds where it is out."""
    if mark == ("in",) and all(through(line, spell, strict) for line, strict in inside):
        return True
    if len(mark) == 2 and mark[0] == "out" and whole(mark[1]) and 0 <= mark[1] < len(inside):
        line, strict = inside[mark[1]]
        return False if through(lambda moment: -line(moment), spell, not strict) else None
    return None


def close_mark(row, other, spell, mark, far):
    lines = [gap_line(row, other, number) for number in range(5)]
    return numbered_mark([(lambda t, line=line: far - line(t), False) for line in lines], spell, mark)


def count_mark(row, spell, mark, level, i, j):
    size = Fraction(2 ** level)
    inside = []
    for axis, tile in ((0, i), (1, j)):
        inside.append((lambda t, axis=axis, tile=tile: standing(row, t)[0][axis] - tile * size, False))
        inside.append((lambda t, axis=axis, tile=tile: (tile + 1) * size - standing(row, t)[0][axis], True))
    return numbered_mark(inside, spell, mark)


def mark_told(question, rows, spell, mark):
    """True in, False out, None where the mark is none."""
    if type(mark) is not tuple or not mark:
        return None
    if None in rows:
        return False if mark == ("none",) else None
    word = question[0]
    if word == "count":
        return count_mark(rows[0], spell, mark, *question[1:])
    if word == "close":
        return close_mark(rows[0], rows[1], spell, mark, question[1])
    if word == "meets":
        return touch_mark(rows[0], rows[1], spell, mark)
    still = (0, question[1], (0, 0))
    if word == "touching":
        return touch_mark(rows[0], still, spell, mark)
    return within_mark(rows[0], still, spell, mark) if word == "within" else within_mark(still, rows[0], spell, mark)


def stands_ahead(one, row, other, other_row, ring, spell, number):
    still = (0, ring, (0, 0))
    if not whole(number) or not 0 <= number < 5:
        return False
    line = gap_line(other_row, still, number)
    return all(through(lambda t, mine=gap_line(row, still, k): line(t) - mine(t), spell, other < one) for k in range(5))


def nearest_is(question, rows, spell, answer, marks):
    rows = {name: row for name, row in rows.items() if row is not None}
    if type(answer) is not tuple or not all(type(name) is str and name in rows for name in answer):
        return False
    if len({*answer}) != len(answer) or len(answer) != min(question[2], len(rows)):
        return False
    if type(marks) is not tuple or len(marks) != 2 or type(marks[0]) is not tuple or type(marks[1]) is not tuple:
        return False
    if len(marks[0]) != max(len(answer) - 1, 0):
        return False
    if not all(type(pair) is tuple and len(pair) == 2 for pair in marks[1]):
        return False
    if [pair[0] for pair in marks[1]] != sorted(name for name in rows if name not in answer):
        return False
    chain = [(one, other, k) for one, other, k in zip(answer, answer[1:], marks[0])]
    chain += [(answer[-1], name, k) for name, k in marks[1]]
    return all(stands_ahead(one, rows[one], other, rows[other], question[1], spell, k) for one, other, k in chain)


def piece_is(told, question, piece):
    spell, answer, marks = piece
    rows = rows_in(told, spell)
    if rows is None:
        return False
    if question[0] == "nearest":
        return nearest_is(question, rows, spell, answer, marks)
    names = sorted(rows)
    things = [(name,) for name in names]
    if question[0] in ("meets", "close"):
        things = [(one, other) for one in names for other in names if one < other]
    if type(marks) is not tuple or len(marks) != len(things):
        return False
    words = [mark_told(question, [rows[name] for name in thing], spell, mark) for thing, mark in zip(things, marks)]
    if None in words:
        return False
    inside = tuple(thing if len(thing) == 2 else thing[0] for thing, word in zip(things, words) if word)
    if question[0] == "count":
        return whole(answer) and answer == len(inside)
    return type(answer) is tuple and answer == inside


def is_paper(told, question, stretch, thing):
    if type(thing) is not tuple or not thing or not all(type(piece) is tuple and len(piece) == 3 for piece in thing):
        return False
    if not all(is_spell(piece[0]) for piece in thing):
        return False
    if not all(is_straight(one[0], other[0]) for one, other in zip(thing, thing[1:])):
        return False
    if thing[0][0][:2] + thing[-1][0][2:] != stretch:
        return False
    return all(piece_is(told, question, piece) for piece in thing)
