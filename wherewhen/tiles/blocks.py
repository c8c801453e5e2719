"""Blocks: the tiles that cover them, and how many things, and which, have their first corner in them."""

from wherewhen.books.book import ways_in
from wherewhen.errors import NoBlock, NoSteps
from wherewhen.joins.shares import steps_by
from wherewhen.moving.lines import left_of_all
from wherewhen.moving.meets import corner_signs
from wherewhen.numbers.fractions import is_whole
from wherewhen.numbers.spells import need_spell, one_way
from wherewhen.numbers.steps import are_steps, put_together, side_by_side, whole_stretch
from wherewhen.shapes.rings import FARTHEST, LEAST
from wherewhen.tiles.tiles import kids_of

MOST_SIDE = 64
# The level of the tiles of that side: no greater one lies in a block.
HIGHEST = 6


def is_block(thing):
    """Tell whether anything is a block."""
    if not isinstance(thing, tuple) or len(thing) != 4:
        return False
    if not all([is_whole(number) and LEAST <= number <= FARTHEST for number in thing]):
        return False
    x, y, beyond_x, beyond_y = thing
    return 1 <= beyond_x - x <= MOST_SIDE and 1 <= beyond_y - y <= MOST_SIDE


def need_block(thing):
    """Refuse what is no block."""
    if not is_block(thing):
        raise NoBlock("no block (x, y, beyond x, beyond y)")


def take_tiles(tile, block, found):
    """Take a tile that lies in a block, else those of its kids, and theirs, that do."""
    level, i, j = tile
    x, y, beyond_x, beyond_y = block
    left, low, right, high = i << level, j << level, (i + 1) << level, (j + 1) << level
    if right <= x or beyond_x <= left or high <= y or beyond_y <= low:
        return
    if x <= left and right <= beyond_x and y <= low and high <= beyond_y:
        found.append(tile)
        return
    # A tile of level 0 that shares a place with a block lies in it: all their numbers are whole.
    for kid in kids_of(level, i, j):
        take_tiles(kid, block, found)


def cover(block):
    """The tiles that lie in a block, but in no greater tile that does, rising."""
    need_block(block)
    x, y, beyond_x, beyond_y = block
    found = []
    for i in range(x >> HIGHEST, ((beyond_x - 1) >> HIGHEST) + 1):
        for j in range(y >> HIGHEST, ((beyond_y - 1) >> HIGHEST) + 1):
            take_tiles((HIGHEST, i, j), block, found)
    return tuple(sorted(found))


def need_counts(things):
    """Refuse what is no tuple of steps, one or more, over one stretch, with whole numbers as answers."""
    if not isinstance(things, tuple) or len(things) == 0:
        raise NoSteps("no tuple of steps")
    for thing in things:
        if not are_steps(thing) or not all([is_whole(answer) for _, answer in thing]):
            raise NoSteps("no steps with whole numbers as answers")
    for thing in things:
        if whole_stretch(thing) != whole_stretch(things[0]):
            raise NoSteps("steps over unlike stretches")


def summed(rows):
    """The steps with all answers of these steps together."""
    need_counts(rows)
    parts = side_by_side(rows, whole_stretch(rows[0]))
    return put_together([(spell, sum(answers)) for spell, answers in parts])


def count_in(book, block, stretch):
    """The steps of how many things have their first corner in a block."""
    # Each place of the block is in just one tile of its cover, so this is what the tiles' timelines are, summed.
    pairs = steps_by(stays(book, block, stretch), stretch)
    return put_together([(spell, len(names)) for spell, names in pairs])


def stays(book, block, stretch):
    """The shares (name, moments) of the things that have their first corner in a block."""
    need_block(block)
    need_spell(stretch)
    found = []
    for name in book.names():
        spells = spells_inside(ways_in(book, name, stretch), block)
        if spells:
            found.append((name, one_way(spells)))
    return tuple(found)


def spells_inside(parts, block):
    """The spells of the moments at which a thing, with a row in each part or None, has its first corner in a block."""
    found = []
    for spell, row in parts:
        held = None if row is None else left_of_all(corner_signs(row, block), spell)
        if held is not None:
            found.append(held)
    return found
