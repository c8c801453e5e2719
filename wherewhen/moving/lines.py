"""Lines over time, and conditions that they be above 0.

The package itself takes conditions as signs (start, slope, above), whole
numbers: the worth times some whole number above 0 is start + slope t. So it
takes them in `through`, `left_of` and `left_of_all`, which look at nothing
again that was looked at.
"""

from wherewhen.errors import NoLine
from wherewhen.numbers.fractions import added, is_fraction, lowest
from wherewhen.numbers.spells import begin_edge, between, edge_below, end_edge, need_moment, need_spell


def is_line(thing):
    """Tell whether anything is a line."""
    if not isinstance(thing, tuple) or len(thing) != 2:
        return False
    return all([is_fraction(number) for number in thing])


def is_condition(thing):
    """Tell whether anything is a condition."""
    if not isinstance(thing, tuple) or len(thing) != 2:
        return False
    return is_line(thing[0]) and isinstance(thing[1], bool)


def need_condition(thing):
    """Refuse what is no condition."""
    if not is_condition(thing):
        raise NoLine("no condition (line, above)")


def need_conditions(things):
    """Refuse what is no tuple of conditions."""
    if not isinstance(things, tuple):
        raise NoLine("no tuple of conditions")
    for thing in things:
        need_condition(thing)


def whole_line(start, slope):
    """The line of two whole numbers."""
    return ((start, 1), (slope, 1))


def worth(line, moment):
    """The worth of a line at a moment."""
    if not is_line(line):
        raise NoLine("no line (a, b) of fractions")
    need_moment(moment)
    start, slope = line
    return added(start, lowest(slope[0] * moment[0], slope[1] * moment[1]))


def signs_of(condition):
    """A condition as signs."""
    ((start, start_under), (slope, slope_under)), above = condition
    return (start * slope_under, slope * start_under, above)


def holds_through(condition, spell):
    """Tell whether a condition holds at each moment of a spell."""
    need_condition(condition)
    need_spell(spell)
    return through(signs_of(condition), spell)


def through(signs, spell):
    """Tell whether signs hold through a spell, by the spell's ends alone."""
    start, slope, above = signs
    (begin, begin_under), with_begin, (end, end_under), with_end = spell
    first, last = start * begin_under + slope * begin, start * end_under + slope * end
    if first < 0 or last < 0:
        return False
    if not above:
        return True
    if first == 0 and (with_begin or last == 0):
        return False
    return last > 0 or not with_end


def turned_over(signs):
    """The signs that hold just where these don't."""
    start, slope, above = signs
    return (-start, -slope, not above)


def fails_through(condition, spell):
    """Tell whether a condition holds at no moment of a spell."""
    need_condition(condition)
    need_spell(spell)
    return through(turned_over(signs_of(condition)), spell)


def left_of(signs, spell):
    """The spell of the moments at which signs hold, or None."""
    if through(signs, spell):
        return spell
    if through(turned_over(signs), spell):
        return None
    # They hold at some moment and fail at another, so the line is 0 at just one moment, not beyond the spell's ends.
    start, slope, above = signs
    zero = lowest(-start, slope)
    if slope > 0:
        return between((zero, above), end_edge(spell))
    return between(begin_edge(spell), (zero, not above))


def left_of_all(rows, spell):
    """The spell of the moments at which all of these signs hold, or None."""
    rest = spell
    for signs in rows:
        rest = left_of(signs, rest)
        if rest is None:
            return None
    return rest


def where(conditions, spell):
    """The spell of the moments at which all conditions hold, or None."""
    need_conditions(conditions)
    need_spell(spell)
    return left_of_all([signs_of(condition) for condition in conditions], spell)


def parts_of(conditions, spell):
    """The spell in parts, each with None, or with a condition that fails through."""
    need_conditions(conditions)
    need_spell(spell)
    front, back = [], []
    rest = spell
    for number, condition in enumerate(conditions):
        held = left_of(signs_of(condition), rest)
        if held is None:
            return tuple([*front, (rest, number), *back])
        # A line is above 0 at one side alone, so a condition takes from the one end of what is left, or the other.
        if edge_below(begin_edge(rest), begin_edge(held)):
            front.append((between(begin_edge(rest), begin_edge(held)), number))
        if edge_below(end_edge(held), end_edge(rest)):
            back.insert(0, (between(end_edge(held), end_edge(rest)), number))
        rest = held
    return tuple([*front, (rest, None), *back])
