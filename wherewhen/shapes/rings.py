"""Rings: tuples of corners, and their closed hulls.

`fences_of`, `reach_of`, `least_of`, `gap_of` are for the package itself: they
take rings that were looked at, and corners beyond the bounds, too.
"""

from wherewhen.errors import NoDirection, NoPlace, NoRing
from wherewhen.numbers.fractions import is_whole

FARTHEST = 10 ** 9
MOST_CORNERS = 8
AXES = ((1, 0), (-1, 0), (0, 1), (0, -1))


def is_pair_up_to(thing, most):
    """Tell whether a thing is a pair of whole numbers from - most to most."""
    if not isinstance(thing, tuple) or len(thing) != 2:
        return False
    return all([is_whole(number) and -most <= number <= most for number in thing])


def is_corner(thing):
    """Tell whether anything is a corner."""
    return is_pair_up_to(thing, FARTHEST)


def is_direction(thing):
    """Tell whether anything is a direction."""
    if not isinstance(thing, tuple) or len(thing) != 2:
        return False
    return all([is_whole(number) for number in thing]) and thing != (0, 0)


def is_left(begin, end, corner):
    """Tell whether a corner is strictly left of the side from begin to end."""
    along = (end[0] - begin[0], end[1] - begin[1])
    return along[0] * (corner[1] - begin[1]) > along[1] * (corner[0] - begin[0])


def turns_left(ring):
    """Tell whether of each side each other corner is strictly left."""
    for at in range(len(ring)):
        begin, end, *others = ring[at:] + ring[:at]
        if not all([is_left(begin, end, corner) for corner in others]):
            return False
    return True


def is_ring(thing):
    """Tell whether anything is a ring."""
    if not isinstance(thing, tuple) or not 1 <= len(thing) <= MOST_CORNERS:
        return False
    if not all([is_corner(corner) for corner in thing]):
        return False
    if len(thing) == 2:
        return thing[0] != thing[1]
    return len(thing) == 1 or turns_left(thing)


def need_ring(thing):
    """Refuse what is no ring."""
    if not is_ring(thing):
        raise NoRing("no ring of one to eight corners, turning left")


def need_direction(thing):
    """Refuse what is no direction."""
    if not is_direction(thing):
        raise NoDirection("no whole numbers (p, q), not both 0")


def box_of(ring):
    """The box of a ring: least x, least y, greatest x, greatest y."""
    need_ring(ring)
    return bounds(ring)


def bounds(corners):
    """The box of corners that are not looked at again."""
    across = [corner[0] for corner in corners]
    upward = [corner[1] for corner in corners]
    return (min(across), min(upward), max(across), max(upward))


def gap(ring, other):
    """The gap of two rings, by their boxes."""
    need_ring(ring)
    need_ring(other)
    return gap_of(ring, other)


def gap_of(corners, others):
    """The gap of two rows of corners that are not looked at again."""
    left, low, right, high = bounds(corners)
    other_left, other_low, other_right, other_high = bounds(others)
    return max(0, left - other_right, other_left - right, low - other_high, other_low - high)


def sides_of(corners):
    """The sides, as they stand, from a corner to the next, the last to the first."""
    return list(zip(corners, corners[1:] + corners[:1]))


def fences(ring):
    """The directions along which a ring is fenced in."""
    need_ring(ring)
    return fences_of(ring)


def fences_of(corners):
    """The fences of corners that are not looked at again."""
    if len(corners) == 1:
        return AXES
    found = [(end[1] - begin[1], begin[0] - end[0]) for begin, end in sides_of(corners)]
    if len(corners) == 2:
        begin, end = corners
        found.append((end[0] - begin[0], end[1] - begin[1]))
        found.append((begin[0] - end[0], begin[1] - end[1]))
    return tuple(found)


def counts(direction, corner):
    """What a corner counts along a direction."""
    return direction[0] * corner[0] + direction[1] * corner[1]


def reach(ring, direction):
    """The greatest that a corner of the ring counts along a direction."""
    need_ring(ring)
    need_direction(direction)
    return reach_of(ring, direction)


def reach_of(corners, direction):
    """The greatest that one of these corners counts along a direction."""
    return max([counts(direction, corner) for corner in corners])


def least_of(corners, direction):
    """The least that one of these corners counts along a direction."""
    return min([counts(direction, corner) for corner in corners])


def turned_about(direction):
    """The direction the other way about."""
    return (-direction[0], -direction[1])


def moved(ring, step):
    """The ring, each corner moved by a corner's numbers."""
    need_ring(ring)
    if not is_corner(step):
        raise NoPlace("no corner to move by")
    told = tuple([(corner[0] + step[0], corner[1] + step[1]) for corner in ring])
    need_ring(told)
    return told


def turned(ring):
    """The ring, turned by a quarter to the left."""
    need_ring(ring)
    return tuple([(-corner[1], corner[0]) for corner in ring])
