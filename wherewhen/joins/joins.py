"""Joins: the pairs of things that meet, or come close, with the moments at which they do."""

from wherewhen.errors import NoNumber
from wherewhen.joins.shares import first_rows, shared_out
from wherewhen.moving.meets import is_far
from wherewhen.numbers.spells import need_spell
from wherewhen.papers.finder import timeline


def joined(book, stretch, *, far=None):
    """The shares of the timeline of what meets, or of what is close by a far."""
    need_spell(stretch)
    if far is not None and not is_far(far):
        raise NoNumber(far)
    question = ("meets",) if far is None else ("close", far)
    return shared_out(timeline(book, question, stretch))


def firsts(book, stretch, *, far=None):
    """The first moments of these shares."""
    return first_rows(joined(book, stretch, far=far))
