"""When two rows touch, are within one another, near, or apart, in a spell."""

from wherewhen.errors import NoLine, NoNumber, NoPlace
from wherewhen.moving.lines import left_of_all, through
from wherewhen.moving.rows import box_numbers, corner_numbers, moved_back, moved_points, need_row_with_ring
from wherewhen.moving.rows import reach_numbers
from wherewhen.numbers.fractions import is_whole, lowest
from wherewhen.numbers.spells import need_spell
from wherewhen.shapes.places import fences_of_both, is_place, lies_in, shared_place
from wherewhen.shapes.rings import counts, is_direction, least_of, turned_about, walls_of

FARTHEST_NEAR = 10 ** 9


def need_two(row, other, spell):
    """Refuse what are not two rows with rings and a spell."""
    need_row_with_ring(row)
    need_row_with_ring(other)
    need_spell(spell)


def is_far(thing):
    """Tell whether anything is a number that a gap may be at most."""
    return is_whole(thing) and 0 <= thing <= FARTHEST_NEAR


def parting_numbers(row, other, direction):
    """The least of the second's less the first's reach: a start and a slope, whole numbers."""
    start, slope = reach_numbers(row, direction)
    back_start, back_slope = reach_numbers(other, turned_about(direction))
    return (-back_start - start, -back_slope - slope)


def parts_through(row, other, spell, direction):
    """Tell whether a direction parts two rows through a spell."""
    start, slope = parting_numbers(row, other, direction)
    return through((start, slope, True), spell)


def touch_signs(row, other):
    """What holds where two rows touch: for each fence of both that it doesn't part them."""
    return side_signs(row, other) + side_signs(other, row)


def side_signs(row, other):
    """What holds, for each fence of the row, where some of the other is not beyond it."""
    found = []
    for p, q, most in walls_of(row[1]):
        slope, other_slope = counts((p, q), row[2]), counts((p, q), other[2])
        start, other_start = most - slope * row[0], least_of(other[1], (p, q)) - other_slope * other[0]
        found.append((start - other_start, slope - other_slope, False))
    return found


def inner_signs(row, other):
    """What holds where the one is within the other: for each fence of the other that it reaches no farther."""
    found = []
    for p, q, most in walls_of(other[1]):
        start, slope = reach_numbers(row, (p, q))
        outer_slope = counts((p, q), other[2])
        found.append((most - outer_slope * other[0] - start, outer_slope - slope, False))
    return found


def gap_numbers(row, other):
    """The five lines of which the gap is the greatest, each as a start and a slope, whole numbers."""
    left, low, right, high = box_numbers(row)
    other_left, other_low, other_right, other_high = box_numbers(other)
    pairs = [(other_left, right), (left, other_right), (other_low, high), (low, other_high)]
    return [(0, 0)] + [(least[0] - greatest[0], least[1] - greatest[1]) for least, greatest in pairs]


def near_signs(row, other, far):
    """What holds where the gap is at most far: for each of the five lines that it is."""
    return [(far - start, -slope, False) for start, slope in gap_numbers(row, other)]


def corner_signs(row, block):
    """What holds where the first corner is in a block: not left of it, left of its end, not below, below its end."""
    found = []
    for axis, least, beyond in (((1, 0), block[0], block[2]), ((0, 1), block[1], block[3])):
        start, slope = corner_numbers(row, axis, row[1][0])
        found.append((start - least, slope, False))
        found.append((beyond - start, -slope, True))
    return found


def touching(row, other, spell):
    """The spell of the moments at which two rows touch, or None."""
    need_two(row, other, spell)
    return left_of_all(touch_signs(row, other), spell)


def within(row, other, spell):
    """The spell of the moments at which the one is within the other, or None."""
    need_two(row, other, spell)
    return left_of_all(inner_signs(row, other), spell)


def near(row, other, spell, *, far=0):
    """The spell of the moments at which the gap of two rows is at most far, or None."""
    need_two(row, other, spell)
    if not is_far(far):
        raise NoNumber(far)
    return left_of_all(near_signs(row, other, far), spell)


def directions_through(row, other):
    """Directions one of which parts two rows through, where any does."""
    found = fences_of_both(row[1], other[1])
    along = (row[2][0] - other[2][0], row[2][1] - other[2][1])
    if along != (0, 0):
        across = (-along[1], along[0])
        found = found + [across, turned_about(across), along, turned_about(along)]
    return found


def apart(row, other, spell):
    """A direction that parts two rows through a spell."""
    need_two(row, other, spell)
    for direction in directions_through(row, other):
        if parts_through(row, other, spell, direction):
            return direction
    raise NoLine("no direction parts them through")


def is_apart(row, other, spell, direction):
    """Tell whether anything is a direction that parts two rows through a spell."""
    need_two(row, other, spell)
    return is_direction(direction) and parts_through(row, other, spell, direction)


def spot_at(row, other, moment):
    """A place that is in both rows' rings at a moment, or None."""
    place = shared_place(moved_points(row, moment), moved_points(other, moment))
    if place is None:
        return None
    (x_over, x_under), (y_over, y_under) = place
    return (lowest(x_over, x_under * moment[1]), lowest(y_over, y_under * moment[1]))


def spots(row, other, spell):
    """A place in both rows' rings at the spell's begin, and one at its end."""
    need_two(row, other, spell)
    found = spots_through(row, other, spell)
    if None in found:
        raise NoPlace("they don't touch all through")
    return found


def spots_through(row, other, spell):
    """A place in both rows' rings at the begin of a spell, and one at its end, each perhaps None."""
    return (spot_at(row, other, spell[0]), spot_at(row, other, spell[2]))


def stands_in(row, moment, place):
    """Tell whether a place is in a row's ring at a moment."""
    return lies_in(row[1], moved_back(row, moment, place))


def are_spots(row, other, spell, thing):
    """Tell whether anything is a place in both at the begin, and one at the end."""
    need_two(row, other, spell)
    return are_spots_through(row, other, spell, thing)


def are_spots_through(row, other, spell, thing):
    """Tell whether anything is such a pair of places, of rows and a spell that were looked at."""
    if not isinstance(thing, tuple) or len(thing) != 2 or not all([is_place(place) for place in thing]):
        return False
    for moment, place in ((spell[0], thing[0]), (spell[2], thing[1])):
        if not stands_in(row, moment, place) or not stands_in(other, moment, place):
            return False
    return True
