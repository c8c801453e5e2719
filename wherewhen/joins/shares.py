"""Shares of steps: for each thing of their answers the set of moments at which it is in the answer."""

from math import lcm
from wherewhen.books.book import is_name
from wherewhen.errors import NoShares, NoSteps
from wherewhen.numbers.spells import begin_edge, between, edge_below, end_edge, is_spell, need_spell, one_way, overlap
from wherewhen.numbers.steps import is_table, need_steps, put_together, side_by_side


def is_pair_of_names(thing):
    """Tell whether anything is a pair of names, the one less than the other."""
    if not isinstance(thing, tuple) or len(thing) != 2:
        return False
    return is_name(thing[0]) and is_name(thing[1]) and thing[0] < thing[1]


def are_things(things):
    """Tell whether these are all names, or all of them pairs of names."""
    return all([is_name(thing) for thing in things]) or all([is_pair_of_names(thing) for thing in things])


def is_set(thing):
    """Tell whether anything is a set of moments, in its one way, one moment at least."""
    if not isinstance(thing, tuple) or len(thing) == 0 or not all([is_spell(spell) for spell in thing]):
        return False
    return all([edge_below(end_edge(one), begin_edge(other)) for one, other in zip(thing, thing[1:])])


def are_shares(thing):
    """Tell whether anything is shares."""
    if not is_table(thing, 2):
        return False
    if not are_things([pair[0] for pair in thing]) or not all([is_set(pair[1]) for pair in thing]):
        return False
    return all([one[0] < other[0] for one, other in zip(thing, thing[1:])])


def need_shares(thing):
    """Refuse what is no shares."""
    if not are_shares(thing):
        raise NoShares("no pairs (thing, moments), rising")


def need_answers(steps):
    """Refuse steps with an answer that is no row of things, or has one twice."""
    found = []
    for _, told in steps:
        if not isinstance(told, tuple):
            raise NoSteps("an answer that is no row")
        found.extend(told)
    if not are_things(found):
        raise NoSteps("answers that are neither all of names nor all of pairs of names")
    for _, told in steps:
        if len(set(told)) != len(told):
            raise NoSteps("an answer with a thing twice")


def shares_of(steps):
    """The shares of steps whose answers are rows of things."""
    need_steps(steps)
    need_answers(steps)
    return shared_out(steps)


def shared_out(steps):
    """The shares of steps that are not looked at again."""
    found = {}
    for spell, told in steps:
        for thing in told:
            found.setdefault(thing, []).append(spell)
    return tuple([(thing, one_way(found[thing])) for thing in sorted(found)])


def track_by(moments, stretch):
    """The stretch in parts, each with whether it is in a set of moments."""
    found = []
    edge, last = begin_edge(stretch), end_edge(stretch)
    for spell in moments:
        if edge_below(edge, begin_edge(spell)):
            found.append((between(edge, begin_edge(spell)), False))
        found.append((spell, True))
        edge = end_edge(spell)
    if edge_below(edge, last):
        found.append((between(edge, last), False))
    return found


def steps_by(shares, stretch):
    """The steps over a stretch that have these shares, all answers rising."""
    need_shares(shares)
    need_spell(stretch)
    tracks = []
    for _, moments in shares:
        if not all([overlap(spell, stretch) == spell for spell in moments]):
            raise NoShares("moments beyond the stretch")
        tracks.append(track_by(moments, stretch))
    pairs = []
    for spell, inside in side_by_side(tracks, stretch):
        pairs.append((spell, tuple([share[0] for share, is_in in zip(shares, inside) if is_in])))
    return put_together(pairs)


def firsts_of(shares):
    """Pairs (moment, thing): the least moment of each thing that has one, by moment, then thing."""
    need_shares(shares)
    return first_rows(shares)


def first_rows(shares):
    """The firsts of shares that are not looked at again."""
    firsts = [(moments[0][0], thing) for thing, moments in shares if moments[0][1]]
    common = 1
    for moment, _ in firsts:
        common = lcm(common, moment[1])
    ranked = sorted([(moment[0] * (common // moment[1]), thing, moment) for moment, thing in firsts])
    return tuple([(moment, thing) for _, thing, moment in ranked])
