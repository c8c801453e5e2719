"""Steps: what the answer is at each moment of a stretch."""

from wherewhen.errors import NoMoment, NoSteps
from wherewhen.numbers.spells import begin_edge, between, edge_below, end_edge
from wherewhen.numbers.spells import is_inside, is_spell, need_moment, need_spell, overlap


def is_table(thing, many):
    """Tell whether anything is a tuple of tuples with so many things each."""
    return isinstance(thing, tuple) and all([isinstance(row, tuple) and len(row) == many for row in thing])


def are_straight_pairs(things):
    """Tell whether these are pairs, the spell of each straight ahead of the next."""
    for thing in things:
        if not isinstance(thing, tuple) or len(thing) != 2 or not is_spell(thing[0]):
            return False
    for one, other in zip(things, things[1:]):
        if end_edge(one[0]) != begin_edge(other[0]):
            return False
    return len(things) > 0


def are_steps(thing):
    """Tell whether anything is steps."""
    if not isinstance(thing, tuple) or not are_straight_pairs(thing):
        return False
    for one, other in zip(thing, thing[1:]):
        if one[1] == other[1]:
            return False
    return True


def need_steps(thing):
    """Refuse what is no steps."""
    if not are_steps(thing):
        raise NoSteps("no steps")


def steps_of(pairs):
    """The steps of pairs (spell, answer), each straight ahead of the next."""
    if not isinstance(pairs, (tuple, list)) or not are_straight_pairs(pairs):
        raise NoSteps("no pairs (spell, answer), each straight ahead of the next")
    return put_together(pairs)


def put_together(pairs):
    """Such pairs, those beside one another with alike answers made one."""
    rows = []
    for spell, answer in pairs:
        if rows and rows[-1][1] == answer:
            first, kept = rows[-1]
            rows[-1] = (between(begin_edge(first), end_edge(spell)), kept)
        else:
            rows.append((spell, answer))
    return tuple(rows)


def stretch_of(steps):
    """The spell of all moments of the steps."""
    need_steps(steps)
    return whole_stretch(steps)


def whole_stretch(steps):
    """The stretch of steps that are not looked at again."""
    return between(begin_edge(steps[0][0]), end_edge(steps[-1][0]))


def answer_in(steps, moment):
    """The answer of the steps at a moment."""
    need_steps(steps)
    need_moment(moment)
    for spell, answer in steps:
        if is_inside(spell, moment):
            return answer
    raise NoMoment(moment)


def cut_pairs(steps, spell):
    """The pairs of the steps, each with those of its moments that the spell has."""
    pairs = []
    for piece, answer in steps:
        common = overlap(piece, spell)
        if common is not None:
            pairs.append((common, answer))
    return pairs


def cut_to(steps, spell):
    """The steps of the moments that are in both."""
    need_steps(steps)
    need_spell(spell)
    pairs = cut_pairs(steps, spell)
    if not pairs:
        raise NoSteps("the spell has no moment of the steps")
    return tuple(pairs)


def pairs_between(steps, edge, other):
    """The pairs of the steps from an edge to another one, none where it is not later."""
    if not edge_below(edge, other):
        return []
    return cut_pairs(steps, between(edge, other))


def laid_over(steps, newer):
    """The newer answers where there are some, else those of the steps."""
    need_steps(steps)
    need_steps(newer)
    whole, part = whole_stretch(steps), whole_stretch(newer)
    if edge_below(begin_edge(part), begin_edge(whole)) or edge_below(end_edge(whole), end_edge(part)):
        raise NoSteps("the newer steps go beyond the stretch")
    ahead = pairs_between(steps, begin_edge(whole), begin_edge(part))
    behind = pairs_between(steps, end_edge(part), end_edge(whole))
    return put_together([*ahead, *newer, *behind])


def side_by_side(tracks, stretch):
    """The stretch in parts, each with what every track has through it.

    A track is a row of pairs over the stretch, the spell of each straight
    ahead of the next.
    """
    places = [0] * len(tracks)
    found = []
    edge, last = begin_edge(stretch), end_edge(stretch)
    while edge_below(edge, last):
        held = [track[place] for track, place in zip(tracks, places)]
        end = last
        for spell, _ in held:
            if edge_below(end_edge(spell), end):
                end = end_edge(spell)
        found.append((between(edge, end), [thing for _, thing in held]))
        places = [place + 1 if end_edge(pair[0]) == end else place for place, pair in zip(places, held)]
        edge = end
    return found
