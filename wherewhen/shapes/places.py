"""Places in rings, and what two rings share or what parts them."""

from wherewhen.numbers.fractions import is_fraction, lowest
from wherewhen.shapes.rings import bounds, fences_of, is_direction, is_ring, least_of, need_ring, reach_of
from wherewhen.shapes.rings import sides_of, turned_about, walls_of


def is_place(thing):
    """Tell whether anything is a place."""
    return isinstance(thing, tuple) and len(thing) == 2 and is_fraction(thing[0]) and is_fraction(thing[1])


def is_in(ring, place):
    """Tell whether anything is a place in a ring."""
    need_ring(ring)
    return is_place(place) and lies_in(ring, place)


def lies_in(corners, place):
    """Tell whether a place is in the hull of corners, neither looked at again."""
    (x, x_under), (y, y_under) = place
    return holds(corners, x * y_under, y * x_under, x_under * y_under)


def holds(corners, x, y, under):
    """Tell whether the place (x / under, y / under) is in the hull of corners."""
    begin_x, begin_y = corners[-1]
    for end_x, end_y in corners:
        if (end_y - begin_y) * (x - begin_x * under) > (end_x - begin_x) * (y - begin_y * under):
            return False
        begin_x, begin_y = end_x, end_y
    if len(corners) > 2:
        return True
    # The place is on the line of two corners: it is between them where it is in their box.
    left, low, right, high = bounds(corners)
    return left * under <= x <= right * under and low * under <= y <= high * under


def fences_of_both(ones, others):
    """The fences of the ones, and those of the others turned about."""
    return list(fences_of(ones)) + [turned_about(fence) for fence in fences_of(others)]


def parting(ones, others):
    """A direction that parts two rows of corners, or None.

    The fences of both are enough: between them are all sides of the hull of
    what leads from a place of the one to a place of the other.
    """
    direction = fence_between(ones, others)
    if direction is not None:
        return direction
    direction = fence_between(others, ones)
    return None if direction is None else turned_about(direction)


def fence_between(ones, others):
    """The first fence of the ones beyond which all of the others are, or None."""
    for p, q, most in walls_of(ones):
        for x, y in others:
            if p * x + q * y <= most:
                break
        else:
            return (p, q)
    return None


def parts(ones, others, direction):
    """Tell whether a direction parts two rows of corners."""
    return reach_of(ones, direction) < least_of(others, direction)


def way_out(side, other):
    """The place where a side goes out over another side, or None."""
    (begin_x, begin_y), (end_x, end_y) = side
    (other_x, other_y), (far_x, far_y) = other
    across, upward = end_x - begin_x, end_y - begin_y
    far_across, far_upward = far_x - other_x, far_y - other_y
    turn = far_upward * across - far_across * upward
    if turn <= 0:
        return None
    # The sides' lines cross where the one has gone way / turn of its length, and the other one beside / turn of its.
    from_x, from_y = other_x - begin_x, other_y - begin_y
    way = far_upward * from_x - far_across * from_y
    beside = upward * from_x - across * from_y
    if not 0 <= way <= turn or not 0 <= beside <= turn:
        return None
    return (lowest(begin_x * turn + across * way, turn), lowest(begin_y * turn + upward * way, turn))


def shared_place(ones, others):
    """A place in the hulls of both rows of corners, or None.

    Where the hulls share places, each corner of what they share is a corner
    of the one, or of the other, or lies where two sides cross. A side that
    crosses a hull goes out of it somewhere, so it is enough to look there.
    """
    for corners, hull in ((ones, others), (others, ones)):
        for x, y in corners:
            if holds(hull, x, y, 1):
                return ((x, 1), (y, 1))
    for side in sides_of(ones):
        for other in sides_of(others):
            place = way_out(side, other)
            if place is not None:
                return place
    return None


def parted(ring, other):
    """A spot of both rings, or a direction that parts them."""
    need_ring(ring)
    need_ring(other)
    direction = parting(ring, other)
    if direction is not None:
        return ("line", direction)
    return ("spot", shared_place(ring, other))


def is_parting(ring, other, direction):
    """Tell whether anything is a direction that parts the first from the second."""
    need_ring(ring)
    need_ring(other)
    return is_direction(direction) and parts(ring, other, direction)


def is_within(ring, other):
    """Tell whether anything is a ring that the first is within."""
    need_ring(ring)
    return is_ring(other) and lie_in(other, ring)


def lie_in(corners, others):
    """Tell whether all of the others are places in the hull of corners."""
    for x, y in others:
        if not holds(corners, x, y, 1):
            return False
    return True
