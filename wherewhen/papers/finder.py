"""The finder of papers: what a question is answered over a stretch, and what shows it."""

from wherewhen.asks.questions import need_question
from wherewhen.books.book import rows_through, ways_in
from wherewhen.moving.lines import left_of
from wherewhen.moving.meets import spots_through
from wherewhen.nearest.orders import nearest_pieces
from wherewhen.numbers.spells import begin_edge, between, edge_below, end_edge, need_spell
from wherewhen.numbers.steps import put_together, side_by_side
from wherewhen.papers.judge import is_of_pairs, rows_of_thing, signs_in, things_of, two_rows
from wherewhen.shapes.places import fences_of_both
from wherewhen.shapes.rings import counts, fences_of

NOWHERE = ("none",)
TOUCH = ("spots",)
INSIDE = ("in",)


def few_parts(rows, spell):
    """The spell in three parts at most, each with None, or with the number of signs that fail through."""
    opened, closed = begin_edge(spell), end_edge(spell)
    opening, closing = None, None
    for number, signs in enumerate(rows):
        held = left_of(signs, spell)
        if held is None:
            return [(spell, number)]
        if edge_below(opened, begin_edge(held)):
            opened, opening = begin_edge(held), number
        if edge_below(end_edge(held), closed):
            closed, closing = end_edge(held), number
    # A line is above 0 at one side alone: what opens fails from the spell's begin on, what closes to its end.
    if edge_below(closed, opened):
        closed = opened
    ends = [begin_edge(spell), opened, closed, end_edge(spell)]
    numbers = [opening, None, closing]
    return [(between(edge, end), number) for edge, end, number in zip(ends, ends[1:], numbers) if edge_below(edge, end)]


def outermost(corners, fence):
    """The number of the corner that counts most along a fence: always the same one, as no ring turns."""
    worths = [counts(fence, corner) for corner in corners]
    return worths.index(max(worths))


def mark_of(question, row, other, number):
    """The mark of a thing by the number of signs that fail through, or by None; the places of a touch left out."""
    if question[0] == "touching" or question[0] == "meets":
        return TOUCH if number is None else ("line", fences_of_both(row[1], other[1])[number])
    if number is None:
        return INSIDE
    if question[0] == "within" or question[0] == "holding":
        return ("out", outermost(row[1], fences_of(other[1])[number]), number)
    return ("out", number)


def marks_through(question, rows, spell):
    """A spell, in which a thing has these rows, in parts, each with the thing's mark."""
    if None in rows:
        return [(spell, NOWHERE)]
    row, other = two_rows(question, rows)
    parts = few_parts(signs_in(question, row, other), spell)
    return [(part, mark_of(question, row, other, number)) for part, number in parts]


def track_of(book, question, stretch, thing):
    """The stretch in parts, each with the mark of a thing."""
    names = thing if is_of_pairs(question) else [thing]
    found = []
    for spell, rows in side_by_side([ways_in(book, name, stretch) for name in names], stretch):
        found.extend(marks_through(question, rows, spell))
    return found


def is_in_answer(mark):
    """Tell whether a thing with such a mark is in the answer."""
    return mark[0] == "spots" or mark[0] == "in"


def answer_of(question, things, inside):
    """The answer, of all things with whether they are in it."""
    told = tuple([thing for thing, is_so in zip(things, inside) if is_so])
    return len(told) if question[0] == "count" else told


def timeline(book, question, stretch):
    """The steps of a question over a stretch."""
    need_question(question)
    need_spell(stretch)
    if question[0] == "nearest":
        return put_together([piece[:2] for piece in nearest_pieces(book, question, stretch)])
    things = things_of(question, book.names())
    tracks = []
    for thing in things:
        track = track_of(book, question, stretch, thing)
        tracks.append(put_together([(spell, is_in_answer(mark)) for spell, mark in track]))
    parts = side_by_side(tracks, stretch)
    return put_together([(spell, answer_of(question, things, inside)) for spell, inside in parts])


def filled(question, rows, thing, spell, mark):
    """The mark of a thing through a spell, a touch with its places."""
    if mark != TOUCH:
        return mark
    row, other = two_rows(question, rows_of_thing(question, rows, thing))
    places = spots_through(row, other, spell)
    return ("spots", *places)


def paper_of(book, question, stretch):
    """A paper of a question over a stretch."""
    need_question(question)
    need_spell(stretch)
    if question[0] == "nearest":
        return nearest_pieces(book, question, stretch)
    names = book.names()
    things = things_of(question, names)
    tracks = [track_of(book, question, stretch, thing) for thing in things]
    found = []
    for spell, (row, *marks) in side_by_side([rows_through(book, stretch), *tracks], stretch):
        rows = dict(zip(names, row))
        told = answer_of(question, things, [is_in_answer(mark) for mark in marks])
        shown = [filled(question, rows, thing, spell, mark) for thing, mark in zip(things, marks)]
        found.append((spell, told, tuple(shown)))
    return tuple(found)
