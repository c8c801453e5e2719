"""Moments, spells of moments, and sets of moments.

A spell is cut out of time by two edges. An edge is (moment, behind): it lies
just behind the moment where behind is True, else just ahead of it. So an end
that is in and one that is out are edges alike, and one spell is straight
ahead of another just where the edge at its end is the edge at which the other
begins.
"""

from math import gcd
from wherewhen.errors import NoMoment, NoSpell
from wherewhen.numbers.fractions import added, below, lowest

END = 10 ** 6


def is_moment(thing):
    """Tell whether anything is a moment."""
    if not isinstance(thing, tuple) or len(thing) != 2:
        return False
    over, under = thing
    # Moments are looked at wherever they are handed in, so this asks of each number without a call.
    if not isinstance(over, int) or not isinstance(under, int) or over is True or over is False or under is True:
        return False
    return under >= 1 and 0 <= over <= END * under and gcd(over, under) == 1


def need_moment(thing):
    """Refuse what is no moment."""
    if not is_moment(thing):
        raise NoMoment(thing)


def begin_edge(spell):
    """The edge at which a spell begins."""
    return (spell[0], not spell[1])


def end_edge(spell):
    """The edge at which a spell ends."""
    return (spell[2], spell[3])


def between(edge, other):
    """The spell from an edge to a later one."""
    return (edge[0], not edge[1], other[0], other[1])


def edge_below(edge, other):
    """Tell whether some moment lies behind the edge and ahead of the other."""
    if edge[0] == other[0]:
        return other[1] and not edge[1]
    return below(edge[0], other[0])


def is_spell(thing):
    """Tell whether anything is a spell."""
    if not isinstance(thing, tuple) or len(thing) != 4:
        return False
    begin, with_begin, end, with_end = thing
    if not isinstance(with_begin, bool) or not isinstance(with_end, bool):
        return False
    return is_moment(begin) and is_moment(end) and edge_below(begin_edge(thing), end_edge(thing))


def need_spell(thing):
    """Refuse what is no spell."""
    if not is_spell(thing):
        raise NoSpell("no spell (begin, with_begin, end, with_end) of one moment at least")


def need_spells(thing):
    """Refuse what is no tuple or list of spells."""
    if not isinstance(thing, (tuple, list)):
        raise NoSpell("no tuple or list of spells")
    for spell in thing:
        need_spell(spell)


def spell(begin, end, *, with_begin=True, with_end=True):
    """The spell from begin to end."""
    need_moment(begin)
    need_moment(end)
    told = (begin, with_begin, end, with_end)
    need_spell(told)
    return told


def has(spell, moment):
    """Tell whether a moment is in a spell."""
    need_spell(spell)
    need_moment(moment)
    return is_inside(spell, moment)


def is_inside(spell, moment):
    """Tell whether a moment is in a spell, neither looked at again."""
    return overlap(spell, (moment, True, moment, True)) is not None


def shared(one, other):
    """The spell of the moments in both, or None."""
    need_spell(one)
    need_spell(other)
    return overlap(one, other)


def overlap(one, other):
    """What two spells share, neither looked at again."""
    first, last = begin_edge(one), end_edge(one)
    if edge_below(first, begin_edge(other)):
        first = begin_edge(other)
    if edge_below(end_edge(other), last):
        last = end_edge(other)
    return between(first, last) if edge_below(first, last) else None


def is_straight(one, other):
    """Tell whether the other is a spell that the one is straight ahead of."""
    need_spell(one)
    return is_spell(other) and end_edge(one) == begin_edge(other)


def some_moment(spell):
    """A moment of the spell: the one in its middle."""
    need_spell(spell)
    over, under = added(spell[0], spell[2])
    return lowest(over, 2 * under)


def place_among(rows, spell):
    """Where a spell goes among rows that rise by their begins."""
    low, high = 0, len(rows)
    while low < high:
        middle = (low + high) // 2
        if edge_below(begin_edge(spell), begin_edge(rows[middle])):
            high = middle
        else:
            low = middle + 1
    return low


def one_way(spells):
    """The set of the moments of all these spells, in its one way."""
    rows = []
    for spell in spells:
        rows.insert(place_among(rows, spell), spell)
    found = []
    for row in rows:
        if not found or edge_below(end_edge(found[-1]), begin_edge(row)):
            found.append(row)
        elif edge_below(end_edge(found[-1]), end_edge(row)):
            found[-1] = between(begin_edge(found[-1]), end_edge(row))
    return tuple(found)


def in_both(some, others):
    """The moments in both of two sets, each in its one way."""
    found = []
    at, beside = 0, 0
    while at < len(some) and beside < len(others):
        common = overlap(some[at], others[beside])
        if common is not None:
            found.append(common)
        if edge_below(end_edge(some[at]), end_edge(others[beside])):
            at += 1
        else:
            beside += 1
    return tuple(found)


def all_but(spells):
    """All moments but those of a set in its one way."""
    found = []
    edge = ((0, 1), False)
    for spell in spells:
        if edge_below(edge, begin_edge(spell)):
            found.append(between(edge, begin_edge(spell)))
        edge = end_edge(spell)
    last = ((END, 1), True)
    if edge_below(edge, last):
        found.append(between(edge, last))
    return tuple(found)


def together(spells):
    """The set of the moments of all these spells."""
    need_spells(spells)
    return one_way(spells)


def both(some, others):
    """The set of the moments that are in the first and in the second."""
    need_spells(some)
    need_spells(others)
    return in_both(one_way(some), one_way(others))


def but(some, others):
    """The set of the first's moments that aren't the second's."""
    need_spells(some)
    need_spells(others)
    return in_both(one_way(some), all_but(one_way(others)))
