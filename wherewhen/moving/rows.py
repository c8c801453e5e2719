"""Rows: a ring that stands somewhere at a moment, and moves on at a pace.

`moved_points`, `moved_back`, `reach_numbers`, `box_numbers` are for the
package itself: they take what was looked at.
"""

from wherewhen.errors import NoRow
from wherewhen.moving.lines import whole_line
from wherewhen.numbers.fractions import lowest, taken
from wherewhen.numbers.spells import END, need_moment
from wherewhen.shapes.rings import are_whole_corners, bounds, counts, is_ring, need_direction, reach_of

FASTEST = 10 ** 6


def is_row(thing):
    """Tell whether anything is a row."""
    if not isinstance(thing, tuple) or len(thing) != 3:
        return False
    moment, ring, pace = thing
    return are_parts_of_row(moment, ring, pace, None)


def are_parts_of_row(moment, ring, pace, known):
    """Tell whether three things are the moment, the ring and the pace of a row, known being a ring, or None."""
    # Rows are looked at wherever they are handed in, so this asks of each number without a call.
    if not isinstance(moment, int) or moment is True or moment is False or not 0 <= moment <= END:
        return False
    if not isinstance(pace, tuple) or len(pace) != 2:
        return False
    u, v = pace
    if not isinstance(u, int) or not isinstance(v, int) or u is True or u is False or v is True or v is False:
        return False
    if ring is None:
        return u == 0 and v == 0
    if not -FASTEST <= u <= FASTEST or not -FASTEST <= v <= FASTEST:
        return False
    return are_whole_corners(ring) if ring == known else is_ring(ring)


def need_row(thing):
    """Refuse what is no row."""
    if not is_row(thing):
        raise NoRow("no row (moment, ring, pace)")


def need_row_with_ring(thing):
    """Refuse what is no row, or one without ring."""
    need_row(thing)
    if thing[1] is None:
        raise NoRow("the row is without ring")


def still_row(ring):
    """The row of a ring that stays where it is."""
    return (0, ring, (0, 0))


def moved_points(row, moment):
    """The corners as they stand at a moment, times the moment's under: whole numbers so."""
    start, ring, pace = row
    over, under = moment
    gone = over - start * under
    return tuple([(x * under + pace[0] * gone, y * under + pace[1] * gone) for x, y in ring])


def moved_back(row, moment, place):
    """Where a place lies from the row's ring at the moment, seen from the ring as it was handed in."""
    start, _, pace = row
    over, under = moment
    gone = over - start * under
    return (taken(place[0], lowest(pace[0] * gone, under)), taken(place[1], lowest(pace[1] * gone, under)))


def ring_at(row, moment):
    """The places of the corners at a moment, None of nowhere."""
    need_row(row)
    need_moment(moment)
    if row[1] is None:
        return None
    return tuple([(lowest(x, moment[1]), lowest(y, moment[1])) for x, y in moved_points(row, moment)])


def corner_numbers(row, direction, corner):
    """What a corner of the row counts along a direction, as a start and a slope, whole numbers."""
    start, _, pace = row
    slope = counts(direction, pace)
    return (counts(direction, corner) - slope * start, slope)


def reach_numbers(row, direction):
    """The reach along a direction as a start and a slope, whole numbers."""
    start, ring, pace = row
    slope = counts(direction, pace)
    return (reach_of(ring, direction) - slope * start, slope)


def reach_line(row, direction):
    """The reach along a direction, as a line."""
    need_row_with_ring(row)
    need_direction(direction)
    at_first, slope = reach_numbers(row, direction)
    return whole_line(at_first, slope)


def box_numbers(row):
    """The four sides of the box, each as a start and a slope, whole numbers."""
    start, ring, pace = row
    left, low, right, high = bounds(ring)
    across, upward = pace[0] * start, pace[1] * start
    return ((left - across, pace[0]), (low - upward, pace[1]), (right - across, pace[0]), (high - upward, pace[1]))


def box_lines(row):
    """The four sides of the box, as lines."""
    need_row_with_ring(row)
    return tuple([whole_line(start, slope) for start, slope in box_numbers(row)])
