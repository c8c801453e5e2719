"""Tiles: their kids, the tile that a place is in, and tiles that are full at a moment."""

from wherewhen.asks.plain import things_at
from wherewhen.asks.questions import GREATEST_LEVEL, is_between, is_tile
from wherewhen.errors import NoNumber, NoPlace, NoTile
from wherewhen.numbers.fractions import is_whole
from wherewhen.numbers.spells import need_moment
from wherewhen.shapes.places import is_place

LEAST = 1


def need_level(thing):
    """Refuse what is no level of tiles."""
    if not is_between(thing, 0, GREATEST_LEVEL):
        raise NoTile("no level of tiles")


def kids(level, i, j):
    """The four tiles of the level below that lie in a tile, rising."""
    if not is_tile(level, i, j) or level == 0:
        raise NoTile("no tile of a level from 1 on")
    return kids_of(level, i, j)


def kids_of(level, i, j):
    """The four kids of a tile that is not looked at again."""
    return tuple([(level - 1, kid_i, kid_j) for kid_i in (2 * i, 2 * i + 1) for kid_j in (2 * j, 2 * j + 1)])


def tile_at(x, y, under, level):
    """The numbers (i, j) of the tile of a level that the place (x / under, y / under) is in."""
    side = under << level
    return (x // side, y // side)


def tile_of(place, level):
    """The numbers (i, j) of the tile of a level that a place is in."""
    if not is_place(place):
        raise NoPlace("no place (x, y) of fractions")
    need_level(level)
    (x, x_under), (y, y_under) = place
    return tile_at(x * y_under, y * x_under, x_under * y_under, level)


def full(book, level, moment, *, least=LEAST):
    """The tiles of a level in which at a moment so many at least have their first corner: (i, j, how many), rising."""
    need_level(level)
    need_moment(moment)
    if not is_whole(least) or least < 1:
        raise NoNumber(least)
    found = {}
    for _, corners in things_at(book, moment):
        x, y = corners[0]
        tile = tile_at(x, y, moment[1], level)
        found[tile] = found.get(tile, 0) + 1
    return tuple([(i, j, many) for (i, j), many in sorted(found.items()) if many >= least])
