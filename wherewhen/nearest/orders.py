"""The order of things by their gaps to a ring, at a moment and through spells."""

from wherewhen.asks.plain import by_gap, things_at
from wherewhen.asks.questions import need_question
from wherewhen.books.book import rows_through
from wherewhen.errors import NoQuestion
from wherewhen.moving.lines import left_of_all, through
from wherewhen.moving.meets import gap_numbers
from wherewhen.moving.rows import moved_points, need_row_with_ring, still_row
from wherewhen.numbers.fractions import is_whole
from wherewhen.numbers.spells import begin_edge, between, edge_below, end_edge, need_moment, need_spell
from wherewhen.shapes.rings import need_ring

MOST_LINES = 5


def order_at(book, ring, moment):
    """All names that are not nowhere at a moment, by gap to the ring, then by name."""
    need_ring(ring)
    need_moment(moment)
    return tuple(by_gap(things_at(book, moment), moved_points(still_row(ring), moment)))


def is_ahead(row, other, ring, spell, number, *, above=False):
    """Tell whether anything is a number by which the row stands ahead of the other."""
    need_row_with_ring(row)
    need_row_with_ring(other)
    need_ring(ring)
    need_spell(spell)
    if not isinstance(above, bool):
        return False
    still = still_row(ring)
    return stands_ahead(gap_numbers(row, still), gap_numbers(other, still), spell, number, above)


def stands_ahead(lines, others, spell, number, above):
    """Tell whether by anything, as a number of the others, the lines stand ahead of them through a spell."""
    if not is_whole(number) or not 0 <= number < MOST_LINES:
        return False
    return all([through(signs, spell) for signs in ahead_signs(lines, others, number, above)])


def ahead_signs(lines, others, number, above):
    """What holds where each of the lines is less than that one of the others, or as much, where above is False."""
    most, most_slope = others[number]
    return [(most - start, most_slope - slope, above) for start, slope in lines]


def nearest_pieces(book, question, stretch):
    """A paper of a nearest over a stretch."""
    need_question(question)
    if question[0] != "nearest":
        raise NoQuestion("not what is nearest")
    need_spell(stretch)
    still, many = still_row(question[1]), question[2]
    pieces = []
    for spell, rows in rows_through(book, stretch):
        lines = {name: gap_numbers(row, still) for name, row in zip(book.names(), rows) if row is not None}
        pieces.extend(pieces_of(lines, many, spell))
    return tuple(pieces)


def pieces_of(lines, many, spell):
    """The pieces over a spell through which each thing has the same five lines."""
    found = []
    edge, last = begin_edge(spell), end_edge(spell)
    while edge_below(edge, last):
        piece = piece_from(lines, many, between(edge, last))
        found.append(piece)
        edge = end_edge(piece[0])
    return found


def piece_from(lines, many, spell):
    """A piece that begins as the spell does, and lasts as long as its marks are right."""
    piece = piece_by(lines, many, spell, order_behind(lines, spell[0]))
    if piece is None:
        # Things that meet in their gap at the begin alone stand in another order there than just behind it.
        piece = piece_by(lines, many, spell, order_then(lines, spell[0]))
    return piece


def greatest_at(lines, moment):
    """Of the greatest of lines at a moment, and just behind it: worth (times the moment's under), slope, number."""
    over, under = moment
    return max([(start * under + slope * over, slope, number) for number, (start, slope) in enumerate(lines)])


def order_behind(lines, moment):
    """Names with the numbers of their greatest lines, in their order just behind a moment."""
    found = []
    for name in lines:
        worth, slope, number = greatest_at(lines[name], moment)
        found.append((worth, slope, name, number))
    return [(name, number) for _, _, name, number in sorted(found)]


def order_then(lines, moment):
    """Names with the numbers of their greatest lines, in their order at a moment."""
    found = []
    for name in lines:
        worth, _, number = greatest_at(lines[name], moment)
        found.append((worth, name, number))
    return [(name, number) for _, name, number in sorted(found)]


def piece_by(lines, many, spell, order):
    """The piece by an order, or None where it is not right at the spell's begin."""
    first, others = order[:many], sorted(order[many:])
    signs = []
    for (one, _), (other, number) in zip(first, first[1:]):
        signs.extend(ahead_signs(lines[one], lines[other], number, other < one))
    for other, number in others:
        last = first[-1][0]
        signs.extend(ahead_signs(lines[last], lines[other], number, other < last))
    held = left_of_all(signs, spell)
    if held is None or begin_edge(held) != begin_edge(spell):
        return None
    marks = (tuple([number for _, number in first[1:]]), tuple(others))
    return (held, tuple([name for name, _ in first]), marks)
