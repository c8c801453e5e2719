"""What a question is answered at one moment, from the things as they stand then.

All places are taken times the moment's under, so they are whole numbers.
"""

from itertools import combinations
from wherewhen.asks.questions import need_question
from wherewhen.books.book import rows_at
from wherewhen.moving.rows import moved_points, still_row
from wherewhen.numbers.spells import need_moment
from wherewhen.shapes.places import lie_in, parting
from wherewhen.shapes.rings import gap_of


def answer(book, question, moment):
    """What a question is answered at a moment."""
    need_question(question)
    need_moment(moment)
    things = things_at(book, moment)
    if question[0] == "count":
        return len(in_tile(things, question, moment[1]))
    if question[0] == "meets" or question[0] == "close":
        return pairs_that_fit(things, question, moment[1])
    ring = moved_points(still_row(question[1]), moment)
    if question[0] == "nearest":
        return tuple(by_gap(things, ring)[:question[2]])
    return tuple([name for name, corners in things if is_so(question[0], corners, ring)])


def things_at(book, moment):
    """Pairs (name, corners) of the things that are not nowhere, as they stand at a moment."""
    return [(name, moved_points(row, moment)) for name, row in rows_at(book, moment)]


def in_tile(things, question, under):
    """The names of those with their first corner in the tile of a count."""
    _, level, i, j = question
    side = under << level
    found = []
    for name, corners in things:
        x, y = corners[0]
        if i * side <= x < (i + 1) * side and j * side <= y < (j + 1) * side:
            found.append(name)
    return found


def pairs_that_fit(things, question, under):
    """The pairs of names that touch, or whose gap is at most far."""
    found = []
    for (one, corners), (other, others) in combinations(things, 2):
        if question[0] == "meets":
            fits = parting(corners, others) is None
        else:
            fits = gap_of(corners, others) <= question[1] * under
        if fits:
            found.append((one, other))
    return tuple(found)


def by_gap(things, ring):
    """The names, by the gap of each to a ring, then by name."""
    return [name for _, name in sorted([(gap_of(corners, ring), name) for name, corners in things])]


def is_so(word, corners, ring):
    """Tell whether corners touch a ring, are within it, or hold it."""
    if word == "touching":
        return parting(corners, ring) is None
    if word == "within":
        return lie_in(ring, corners)
    return lie_in(corners, ring)
