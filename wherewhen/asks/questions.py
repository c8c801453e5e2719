"""Questions: what they are."""

from wherewhen.errors import NoQuestion
from wherewhen.moving.meets import is_far
from wherewhen.numbers.fractions import is_whole
from wherewhen.shapes.rings import FARTHEST, is_ring

MOST_ASKED = 12
GREATEST_LEVEL = 30


def is_between(thing, least, most):
    """Tell whether anything is a whole number from least to most."""
    return is_whole(thing) and least <= thing <= most


def is_tile(level, i, j):
    """Tell whether three things are the numbers of a tile."""
    if not is_between(level, 0, GREATEST_LEVEL):
        return False
    return is_between(i, -FARTHEST, FARTHEST) and is_between(j, -FARTHEST, FARTHEST)


def is_question(thing):
    """Tell whether anything is a question."""
    if not isinstance(thing, tuple) or len(thing) == 0:
        return False
    word, *rest = thing
    if word == "touching" or word == "within" or word == "holding":
        return len(rest) == 1 and is_ring(rest[0])
    if word == "nearest":
        return len(rest) == 2 and is_ring(rest[0]) and is_between(rest[1], 1, MOST_ASKED)
    if word == "meets":
        return len(rest) == 0
    if word == "close":
        return len(rest) == 1 and is_far(rest[0])
    return word == "count" and len(rest) == 3 and is_tile(rest[0], rest[1], rest[2])


def need_question(thing):
    """Refuse what is no question."""
    if not is_question(thing):
        raise NoQuestion("no question of these seven")
