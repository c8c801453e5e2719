"""Places in rings, and what two rings share or what parts them."""

from wherewhen.numbers.fractions import is_fraction, lowest
from wherewhen.shapes.rings import counts, fences_of, is_direction, is_ring, least_of, need_ring, reach_of
from wherewhen.shapes.rings import sides_of, turned_about


def is_place(thing):
    """Tell whether anything is a place."""
    if not isinstance(thing, tuple) or len(thing) != 2:
        return False
    return all([is_fraction(number) for number in thing])


def is_in(ring, place):
    """Tell whether anything is a place in a ring."""
    need_ring(ring)
    return is_place(place) and lies_in(ring, place)


def lies_in(corners, place):
    """Tell whether a place is in the hull of corners, neither looked at again."""
    (x_over, x_under), (y_over, y_under) = place
    at = (x_over * y_under, y_over * x_under)
    under = x_under * y_under
    for fence in fences_of(corners):
        if counts(fence, at) > reach_of(corners, fence) * under:
            return False
    return True


def fences_of_both(ones, others):
    """The fences of the ones, and those of the others turned about."""
    return list(fences_of(ones)) + [turned_about(fence) for fence in fences_of(others)]


def parting(ones, others):
    """A direction that parts two rows of corners, or None.

    The fences of both are enough: between them are all sides of the hull of
    what leads from a place of the one to a place of the other.
    """
    for direction in fences_of_both(ones, others):
        if parts(ones, others, direction):
            return direction
    return None


def parts(ones, others, direction):
    """Tell whether a direction parts two rows of corners."""
    return reach_of(ones, direction) < least_of(others, direction)


def way_out(side, other):
    """The place where a side goes out over another side, or None."""
    (begin, end), (other_begin, other_end) = side, other
    fence = (other_end[1] - other_begin[1], other_begin[0] - other_end[0])
    turn = counts(fence, end) - counts(fence, begin)
    if turn <= 0:
        return None
    way = counts(fence, other_begin) - counts(fence, begin)
    x_over = begin[0] * turn + (end[0] - begin[0]) * way
    y_over = begin[1] * turn + (end[1] - begin[1]) * way
    place = (lowest(x_over, turn), lowest(y_over, turn))
    if 0 <= way <= turn and lies_in((other_begin, other_end), place):
        return place
    return None


def shared_place(ones, others):
    """A place in the hulls of both rows of corners, or None.

    Where the hulls share places, each corner of what they share is a corner
    of the one, or of the other, or lies where two sides cross. A side that
    crosses a hull goes out of it somewhere, so it is enough to look there.
    """
    for corners, hull in ((ones, others), (others, ones)):
        for corner in corners:
            place = ((corner[0], 1), (corner[1], 1))
            if lies_in(hull, place):
                return place
    for side in sides_of(ones):
        for other in sides_of(others):
            place = way_out(side, other)
            if place is not None:
                return place
    return None


def parted(ring, other):
    """A spot of both rings, or a direction that parts them."""
    need_ring(ring)
    need_ring(other)
    direction = parting(ring, other)
    if direction is not None:
        return ("line", direction)
    return ("spot", shared_place(ring, other))


def is_parting(ring, other, direction):
    """Tell whether anything is a direction that parts the first from the second."""
    need_ring(ring)
    need_ring(other)
    return is_direction(direction) and parts(ring, other, direction)


def is_within(ring, other):
    """Tell whether anything is a ring that the first is within."""
    need_ring(ring)
    return is_ring(other) and lie_in(other, ring)


def lie_in(corners, others):
    """Tell whether all of the others are places in the hull of corners."""
    return all([lies_in(corners, ((other[0], 1), (other[1], 1))) for other in others])
