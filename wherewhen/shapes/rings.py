"""Rings: tuples of corners, and their closed hulls.

`fences_of`, `reach_of`, `least_of`, `gap_of` are for the package itself: they
take rings that were looked at, and corners beyond the bounds, too.
"""

from wherewhen.errors import NoDirection, NoPlace, NoRing
from wherewhen.numbers.fractions import is_whole

FARTHEST = 10 ** 9
LEAST = -10 ** 9
MOST_CORNERS = 8
AXES = ((1, 0), (-1, 0), (0, 1), (0, -1))


def are_corners(things):
    """Tell whether these are all corners."""
    # Rings are looked at wherever they are handed in, so this asks of each number without a call.
    for thing in things:
        if not isinstance(thing, tuple) or len(thing) != 2:
            return False
        x, y = thing
        if not isinstance(x, int) or not isinstance(y, int) or x is True or x is False or y is True or y is False:
            return False
        if not LEAST <= x <= FARTHEST or not LEAST <= y <= FARTHEST:
            return False
    return True


def are_whole_corners(things):
    """Tell whether pairs that are alike a ring's corners are whole numbers: no truths, which are alike 0 and 1."""
    for x, y in things:
        if not isinstance(x, int) or not isinstance(y, int) or x is True or x is False or y is True or y is False:
            return False
    return True


def is_direction(thing):
    """Tell whether anything is a direction."""
    if not isinstance(thing, tuple) or len(thing) != 2:
        return False
    return is_whole(thing[0]) and is_whole(thing[1]) and thing != (0, 0)


def turns_left(ring):
    """Tell whether of each side each other corner is strictly left.

    It is enough that each side turns left from the one ahead of it, and that
    all of them together go around once: that just one side goes up behind one
    that doesn't. No turn is so wide that it could leave out all ways up, or
    all others.
    """
    (ahead_x, ahead_y), (x, y) = ring[-2], ring[-1]
    across, upward = x - ahead_x, y - ahead_y
    is_up = upward > 0
    rounds = 0
    for next_x, next_y in ring:
        next_across, next_upward = next_x - x, next_y - y
        if across * next_upward <= upward * next_across:
            return False
        was_up, is_up = is_up, next_upward > 0
        if is_up and not was_up:
            rounds += 1
        x, y, across, upward = next_x, next_y, next_across, next_upward
    return rounds == 1


def is_ring(thing):
    """Tell whether anything is a ring."""
    if not isinstance(thing, tuple) or not 1 <= len(thing) <= MOST_CORNERS:
        return False
    if not are_corners(thing):
        return False
    if len(thing) < 3:
        return len(thing) == 1 or thing[0] != thing[1]
    return turns_left(thing)


def need_ring(thing):
    """Refuse what is no ring."""
    if not is_ring(thing):
        raise NoRing("no ring of one to eight corners, turning left")


def need_direction(thing):
    """Refuse what is no direction."""
    if not is_direction(thing):
        raise NoDirection("no whole numbers (p, q), not both 0")


def box_of(ring):
    """The box of a ring: least x, least y, greatest x, greatest y."""
    need_ring(ring)
    return bounds(ring)


def bounds(corners):
    """The box of corners that are not looked at again."""
    across = [x for x, _ in corners]
    upward = [y for _, y in corners]
    return (min(across), min(upward), max(across), max(upward))


def gap(ring, other):
    """The gap of two rings, by their boxes."""
    need_ring(ring)
    need_ring(other)
    return gap_of(ring, other)


def gap_of(corners, others):
    """The gap of two rows of corners that are not looked at again."""
    left, low, right, high = bounds(corners)
    other_left, other_low, other_right, other_high = bounds(others)
    return max(0, left - other_right, other_left - right, low - other_high, other_low - high)


def sides_of(corners):
    """The sides, as they stand, from a corner to the next, the last to the first."""
    return list(zip(corners, corners[1:] + corners[:1]))


def fences(ring):
    """The directions along which a ring is fenced in."""
    need_ring(ring)
    return fences_of(ring)


def fences_of(corners):
    """The fences of corners that are not looked at again."""
    if len(corners) == 1:
        return AXES
    found = [(end[1] - begin[1], begin[0] - end[0]) for begin, end in sides_of(corners)]
    if len(corners) == 2:
        begin, end = corners
        found.append((end[0] - begin[0], end[1] - begin[1]))
        found.append((begin[0] - end[0], begin[1] - end[1]))
    return tuple(found)


def walls_of(corners):
    """The fences of corners as (p, q, most), most the reach along (p, q)."""
    if len(corners) < 3:
        return [(p, q, reach_of(corners, (p, q))) for p, q in fences_of(corners)]
    found = []
    begin_x, begin_y = corners[0]
    for end_x, end_y in corners[1:] + corners[:1]:
        # All other corners are left of the side, so none of them reaches beyond it.
        p, q = end_y - begin_y, begin_x - end_x
        found.append((p, q, p * begin_x + q * begin_y))
        begin_x, begin_y = end_x, end_y
    return found


def counts(direction, corner):
    """What a corner counts along a direction."""
    return direction[0] * corner[0] + direction[1] * corner[1]


def reach(ring, direction):
    """The greatest that a corner of the ring counts along a direction."""
    need_ring(ring)
    need_direction(direction)
    return reach_of(ring, direction)


def reach_of(corners, direction):
    """The greatest that one of these corners counts along a direction."""
    p, q = direction
    return max([p * x + q * y for x, y in corners])


def least_of(corners, direction):
    """The least that one of these corners counts along a direction."""
    p, q = direction
    return min([p * x + q * y for x, y in corners])


def turned_about(direction):
    """The direction the other way about."""
    return (-direction[0], -direction[1])


def moved(ring, step):
    """The ring, each corner moved by a corner's numbers."""
    need_ring(ring)
    if not are_corners((step,)):
        raise NoPlace("no corner to move by")
    across, upward = step
    told = tuple([(x + across, y + upward) for x, y in ring])
    # Moved, it turns left as it did; but it may have come too far.
    if not are_corners(told):
        raise NoRing("moved beyond the farthest corners")
    return told


def turned(ring):
    """The ring, turned by a quarter to the left."""
    need_ring(ring)
    return tuple([(-y, x) for x, y in ring])
