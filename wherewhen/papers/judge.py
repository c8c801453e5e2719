"""The judge of papers: what shows what a question is answered through a spell.

The judge looks at the ends of spells alone. `things_of`, `two_rows`,
`signs_in` are for the finder of papers, too.
"""

from itertools import combinations
from wherewhen.asks.questions import need_question
from wherewhen.books.book import rows_through
from wherewhen.errors import NoSteps
from wherewhen.moving.lines import through, turned_over
from wherewhen.moving.meets import are_spots_through, corner_signs, gap_numbers, inner_signs, near_signs
from wherewhen.moving.meets import parts_through, touch_signs
from wherewhen.moving.rows import corner_numbers, reach_numbers, still_row
from wherewhen.nearest.orders import stands_ahead
from wherewhen.numbers.fractions import is_whole
from wherewhen.numbers.spells import need_spell
from wherewhen.numbers.steps import are_straight_pairs, is_table, steps_of, whole_stretch
from wherewhen.shapes.rings import fences_of, is_direction

IN = "in"
OUT = "out"


def is_of_pairs(question):
    """Tell whether a question is answered by pairs of names."""
    return question[0] == "meets" or question[0] == "close"


def things_of(question, names):
    """The things that may be in an answer, rising."""
    return list(combinations(names, 2)) if is_of_pairs(question) else list(names)


def two_rows(question, rows):
    """The two rows that a question is about, of one thing's row, or of the rows of a pair: the inner one first."""
    if is_of_pairs(question):
        return (rows[0], rows[1])
    if question[0] == "count":
        return (rows[0], None)
    still = still_row(question[1])
    return (still, rows[0]) if question[0] == "holding" else (rows[0], still)


def tile_signs(row, question):
    """What holds where the first corner is in the tile: not left of it, left of its end, not below, below its end."""
    _, level, i, j = question
    side = 1 << level
    return corner_signs(row, (i * side, j * side, (i + 1) * side, (j + 1) * side))


def signs_in(question, row, other):
    """What holds, all of it, just where two rows (or the one) make an answer's thing."""
    if question[0] == "touching" or question[0] == "meets":
        return touch_signs(row, other)
    if question[0] == "close":
        return near_signs(row, other, question[1])
    if question[0] == "count":
        return tile_signs(row, question)
    return inner_signs(row, other)


def is_below(thing, many):
    """Tell whether anything is a number from 0 on, below so many."""
    return is_whole(thing) and 0 <= thing < many


def touch_told(row, other, spell, mark):
    """What a mark of a touch tells: IN, OUT, or None where it is none."""
    if mark[0] == "spots" and are_spots_through(row, other, spell, mark[1:]):
        return IN
    if mark[0] == "line" and len(mark) == 2 and is_direction(mark[1]) and parts_through(row, other, spell, mark[1]):
        return OUT
    return None


def is_corner_out(row, other, spell, corner, fence):
    """Tell whether by anything, as their numbers, a corner of the one counts more along a fence of the other."""
    fences = fences_of(other[1])
    if not is_below(corner, len(row[1])) or not is_below(fence, len(fences)):
        return False
    start, slope = corner_numbers(row, fences[fence], row[1][corner])
    outer_start, outer_slope = reach_numbers(other, fences[fence])
    return through((start - outer_start, slope - outer_slope, True), spell)


def is_out(question, row, other, spell, numbers):
    """Tell whether by anything, as a mark's numbers, the thing is in no answer through a spell."""
    if question[0] == "within" or question[0] == "holding":
        return len(numbers) == 2 and is_corner_out(row, other, spell, numbers[0], numbers[1])
    rows = signs_in(question, row, other)
    if len(numbers) != 1 or not is_below(numbers[0], len(rows)):
        return False
    return through(turned_over(rows[numbers[0]]), spell)


def told_by(question, rows, spell, mark):
    """What a mark tells of a thing through a spell: IN, OUT, or None where it is none."""
    if not isinstance(mark, tuple) or len(mark) == 0:
        return None
    if None in rows:
        return OUT if mark == ("none",) else None
    row, other = two_rows(question, rows)
    if question[0] == "touching" or question[0] == "meets":
        return touch_told(row, other, spell, mark)
    if mark == ("in",) and all([through(signs, spell) for signs in signs_in(question, row, other)]):
        return IN
    if mark[0] == "out" and is_out(question, row, other, spell, mark[1:]):
        return OUT
    return None


def are_pieces(thing, stretch):
    """Tell whether anything is pieces, by their form, that are together the stretch."""
    if not is_table(thing, 3):
        return False
    pairs = [piece[:2] for piece in thing]
    return are_straight_pairs(pairs) and whole_stretch(pairs) == stretch


def rows_of_thing(question, rows, thing):
    """The rows of a name, or of both names of a pair."""
    if is_of_pairs(question):
        return [rows[name] for name in thing]
    return [rows[thing]]


def is_shown(question, rows, piece):
    """Tell whether a piece, whose names have these rows, shows its answer."""
    spell, told, marks = piece
    things = things_of(question, list(rows))
    if not isinstance(marks, tuple) or len(marks) != len(things):
        return False
    found = []
    for thing, mark in zip(things, marks):
        word = told_by(question, rows_of_thing(question, rows, thing), spell, mark)
        if word is None:
            return False
        if word == IN:
            found.append(thing)
    if question[0] == "count":
        return is_whole(told) and told == len(found)
    return told == tuple(found)


def are_names_of(thing, lines):
    """Tell whether anything is a row of names that have lines, none twice."""
    if not isinstance(thing, tuple) or not all([isinstance(name, str) and name in lines for name in thing]):
        return False
    return len(set(thing)) == len(thing)


def is_order_shown(question, rows, piece):
    """Tell whether a piece of a nearest, whose names have these rows, shows its answer."""
    spell, told, marks = piece
    still = still_row(question[1])
    lines = {name: gap_numbers(row, still) for name, row in rows.items() if row is not None}
    if not are_names_of(told, lines) or len(told) != min(question[2], len(lines)):
        return False
    if not isinstance(marks, tuple) or len(marks) != 2:
        return False
    orders, others = marks
    if not isinstance(orders, tuple) or len(orders) != len(told[1:]) or not is_table(others, 2):
        return False
    if [name for name, _ in others] != [name for name in lines if name not in told]:
        return False
    ahead = list(zip(told, told[1:], orders)) + [(told[-1], name, number) for name, number in others]
    for one, other, number in ahead:
        if not stands_ahead(lines[one], lines[other], spell, number, other < one):
            return False
    return True


def shows(book, question, stretch, thing):
    """Tell whether anything is a paper of a question over a stretch."""
    need_question(question)
    need_spell(stretch)
    if not are_pieces(thing, stretch):
        return False
    for piece in thing:
        parts = rows_through(book, piece[0])
        if len(parts) != 1:
            return False
        rows = dict(zip(book.names(), parts[0][1]))
        if question[0] == "nearest" and not is_order_shown(question, rows, piece):
            return False
        if question[0] != "nearest" and not is_shown(question, rows, piece):
            return False
    return True


def steps_in(paper):
    """The steps of a paper."""
    if not is_table(paper, 3):
        raise NoSteps("no pieces (spell, answer, marks)")
    return steps_of([piece[:2] for piece in paper])
