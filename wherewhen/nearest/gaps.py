"""The gap of a row to a ring, as the greatest of five lines."""

from wherewhen.moving.lines import whole_line
from wherewhen.moving.meets import gap_numbers
from wherewhen.moving.rows import moved_points, need_row_with_ring, still_row
from wherewhen.numbers.fractions import lowest
from wherewhen.numbers.spells import need_moment
from wherewhen.shapes.rings import gap_of, need_ring


def gap_lines(row, ring):
    """The five lines of which the gap of a row to a ring is always the greatest."""
    need_row_with_ring(row)
    need_ring(ring)
    return tuple([whole_line(start, slope) for start, slope in gap_numbers(row, still_row(ring))])


def gap_at(row, ring, moment):
    """The gap of a row to a ring at a moment."""
    need_row_with_ring(row)
    need_ring(ring)
    need_moment(moment)
    return lowest(gap_of(moved_points(row, moment), moved_points(still_row(ring), moment)), moment[1])
