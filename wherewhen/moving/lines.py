"""Lines over time, and conditions that they be above 0.

`sign_at`, `through`, `turned_over`, `left_of_all`, `whole_line` are for the
package itself: they take what was looked at.
"""

from wherewhen.errors import NoLine
from wherewhen.numbers.fractions import added, is_fraction, lowest
from wherewhen.numbers.spells import begin_edge, between, edge_below, end_edge, need_moment, need_spell


def is_line(thing):
    """Tell whether anything is a line."""
    if not isinstance(thing, tuple) or len(thing) != 2:
        return False
    return all([is_fraction(number) for number in thing])


def is_condition(thing):
    """Tell whether anything is a condition."""
    if not isinstance(thing, tuple) or len(thing) != 2:
        return False
    return is_line(thing[0]) and isinstance(thing[1], bool)


def need_condition(thing):
    """Refuse what is no condition."""
    if not is_condition(thing):
        raise NoLine("no condition (line, above)")


def need_conditions(things):
    """Refuse what is no tuple of conditions."""
    if not isinstance(things, tuple):
        raise NoLine("no tuple of conditions")
    for thing in things:
        need_condition(thing)


def whole_line(start, slope):
    """The line of two whole numbers."""
    return ((start, 1), (slope, 1))


def worth(line, moment):
    """The worth of a line at a moment."""
    if not is_line(line):
        raise NoLine("no line (a, b) of fractions")
    need_moment(moment)
    start, slope = line
    return added(start, lowest(slope[0] * moment[0], slope[1] * moment[1]))


def sign_at(line, moment):
    """A whole number, above 0, 0, or below, as the line's worth at a moment is."""
    start, slope = line
    return start[0] * slope[1] * moment[1] + slope[0] * moment[0] * start[1]


def holds_through(condition, spell):
    """Tell whether a condition holds at each moment of a spell."""
    need_condition(condition)
    need_spell(spell)
    return through(condition, spell)


def through(condition, spell):
    """Tell whether a condition holds through a spell, by the spell's ends alone."""
    line, above = condition
    begin, with_begin, end, with_end = spell
    first, last = sign_at(line, begin), sign_at(line, end)
    if first < 0 or last < 0:
        return False
    if not above:
        return True
    if first == 0 and (with_begin or last == 0):
        return False
    return last > 0 or not with_end


def turned_over(condition):
    """The condition that holds just where this one doesn't."""
    ((start, start_under), (slope, slope_under)), above = condition
    return (((-start, start_under), (-slope, slope_under)), not above)


def fails_through(condition, spell):
    """Tell whether a condition holds at no moment of a spell."""
    need_condition(condition)
    need_spell(spell)
    return through(turned_over(condition), spell)


def left_of(condition, spell):
    """The spell of the moments at which a condition holds, or None."""
    if through(condition, spell):
        return spell
    if through(turned_over(condition), spell):
        return None
    # It holds at some moment and fails at another, so the line is 0 at just one moment, not beyond the spell's ends.
    (start, slope), above = condition
    zero = lowest(-start[0] * slope[1], start[1] * slope[0])
    if slope[0] > 0:
        return between((zero, above), end_edge(spell))
    return between(begin_edge(spell), (zero, not above))


def left_of_all(conditions, spell):
    """The spell of the moments at which all of these conditions hold, or None."""
    rest = spell
    for condition in conditions:
        rest = left_of(condition, rest)
        if rest is None:
            return None
    return rest


def where(conditions, spell):
    """The spell of the moments at which all conditions hold, or None."""
    need_conditions(conditions)
    need_spell(spell)
    return left_of_all(conditions, spell)


def parts_of(conditions, spell):
    """The spell in parts, each with None, or with a condition that fails through."""
    need_conditions(conditions)
    need_spell(spell)
    front, back = [], []
    rest = spell
    for number, condition in enumerate(conditions):
        held = left_of(condition, rest)
        if held is None:
            return tuple([*front, (rest, number), *back])
        # A line is above 0 at one side alone, so a condition takes from the one end of what is left, or the other.
        if edge_below(begin_edge(rest), begin_edge(held)):
            front.append((between(begin_edge(rest), begin_edge(held)), number))
        if edge_below(end_edge(held), end_edge(rest)):
            back.insert(0, (between(end_edge(held), end_edge(rest)), number))
        rest = held
    return tuple([*front, (rest, None), *back])
