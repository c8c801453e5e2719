"""Regions: the places that a house has, and what comes into them.

A region is (least x, least y, beyond x, beyond y), None where it goes on for
ever. `parts_of_region`, `box_side`, `asked_side`, `gap_to`, `is_coming_in`
are for the package itself: they take what was looked at.
"""

from wherewhen.asks.questions import is_tile
from wherewhen.errors import NoRegion, NoTile
from wherewhen.moving.lines import left_of_all
from wherewhen.moving.rows import box_numbers, need_row
from wherewhen.numbers.fractions import is_whole
from wherewhen.numbers.spells import END, need_spell
from wherewhen.shapes.rings import FARTHEST, LEAST, bounds, need_ring

EVERYWHERE = (None, None, None, None)
AXES_OF_PLACES = (0, 1)


def is_bound(thing):
    """Tell whether anything is a number at which regions may begin and end."""
    return is_whole(thing) and LEAST <= thing <= FARTHEST


def is_region(thing):
    """Tell whether anything is a region."""
    if not isinstance(thing, tuple) or len(thing) != 4:
        return False
    if not all([number is None or is_bound(number) for number in thing]):
        return False
    for axis in AXES_OF_PLACES:
        least, beyond = thing[axis], thing[axis + 2]
        if least is not None and beyond is not None and least >= beyond:
            return False
    return True


def need_region(thing):
    """Refuse what is no region."""
    if not is_region(thing):
        raise NoRegion("no region (least x, least y, beyond x, beyond y)")


def parts_of_region(region, axis, at):
    """The lower and the upper part of a region that is cut, each None where it has no places."""
    least, beyond = region[axis], region[axis + 2]
    lower, upper = list(region), list(region)
    lower[axis + 2], upper[axis] = at, at
    return (tuple(lower) if least is None or least < at else None,
            tuple(upper) if beyond is None or at < beyond else None)


def box_side(region, box):
    """The first side of a region on which a box is, or None where it meets the region."""
    for axis in AXES_OF_PLACES:
        least, beyond = region[axis], region[axis + 2]
        if least is not None and box[axis + 2] < least:
            return 2 * axis
        if beyond is not None and box[axis] >= beyond:
            return 2 * axis + 1
    return None


def box_of_tile(level, i, j):
    """The box of a tile's whole places: a region's numbers are whole, so no others of its places matter."""
    side = 1 << level
    return (i * side, j * side, (i + 1) * side - 1, (j + 1) * side - 1)


def side_of(region, ring):
    """The side of a region on which a ring's box is, or None where it meets the region."""
    need_region(region)
    need_ring(ring)
    return box_side(region, bounds(ring))


def tile_side(region, level, i, j):
    """The side of a region on which a tile is, or None where the region has some place of it."""
    need_region(region)
    if not is_tile(level, i, j):
        raise NoTile("no tile")
    return box_side(region, box_of_tile(level, i, j))


def region_gap(region, ring):
    """The gap of a region to a ring."""
    need_region(region)
    need_ring(ring)
    return gap_to(region, ring)


def gap_to(region, corners):
    """The gap of a region to a ring, neither looked at again."""
    box = bounds(corners)
    found = 0
    for axis in AXES_OF_PLACES:
        least, beyond = region[axis], region[axis + 2]
        if least is not None:
            found = max(found, least - box[axis + 2])
        if beyond is not None:
            found = max(found, box[axis] - beyond)
    return found


def coming_signs(row, region):
    """What holds, all of it, where a row's box meets a region."""
    sides = box_numbers(row)
    found = []
    for axis in AXES_OF_PLACES:
        least, beyond = region[axis], region[axis + 2]
        if least is not None:
            start, slope = sides[axis + 2]
            found.append((start - least, slope, False))
        if beyond is not None:
            start, slope = sides[axis]
            found.append((beyond - start, -slope, True))
    return found


def comes_in(row, region, spell):
    """The spell of the moments at which a row's box meets a region, or None."""
    need_row(row)
    need_region(region)
    need_spell(spell)
    if row[1] is None:
        return None
    return left_of_all(coming_signs(row, region), spell)


def is_coming_in(row, region):
    """Tell whether a row with a ring comes into a region at some moment from its own to END."""
    spell = ((row[0], 1), True, (END, 1), True)
    return left_of_all(coming_signs(row, region), spell) is not None
