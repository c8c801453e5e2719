"""Fractions: exact numbers (over, under), under 1 or more, in lowest terms.

`lowest`, `added`, `taken`, `below` are for the package itself: they do not
look again at what was looked at, or worked out, already.
"""

from math import gcd
from wherewhen.errors import NoFraction


def is_whole(thing):
    """Tell whether a thing is a whole number: a truth is none."""
    return isinstance(thing, int) and not isinstance(thing, bool)


def is_fraction(thing):
    """Tell whether anything is a fraction."""
    if not isinstance(thing, tuple) or len(thing) != 2:
        return False
    over, under = thing
    return is_whole(over) and is_whole(under) and under >= 1 and gcd(over, under) == 1


def need_fraction(thing):
    """Refuse what is no fraction."""
    if not is_fraction(thing):
        raise NoFraction("no whole numbers (over, under) in lowest terms")


def lowest(over, under):
    """The fraction over / under, of whole numbers, under not 0."""
    if under < 0:
        over, under = -over, -under
    common = gcd(over, under)
    return (over // common, under // common)


def added(one, other):
    """The sum of two fractions."""
    return lowest(one[0] * other[1] + other[0] * one[1], one[1] * other[1])


def taken(one, other):
    """What is left of the one without the other."""
    return lowest(one[0] * other[1] - other[0] * one[1], one[1] * other[1])


def below(one, other):
    """Tell whether the one fraction is less than the other."""
    return one[0] * other[1] < other[0] * one[1]


def fraction(over, *, under=1):
    """The fraction over / under."""
    if not is_whole(over) or not is_whole(under):
        raise NoFraction("over and under are whole numbers")
    if under == 0:
        raise NoFraction("under is not 0")
    return lowest(over, under)


def plus(one, other):
    """The sum of two fractions."""
    need_fraction(one)
    need_fraction(other)
    return added(one, other)


def minus(one, other):
    """What is left of the one without the other."""
    need_fraction(one)
    need_fraction(other)
    return taken(one, other)


def times(one, other):
    """The product of two fractions."""
    need_fraction(one)
    need_fraction(other)
    return lowest(one[0] * other[0], one[1] * other[1])


def by(one, other):
    """The one fraction, parted by the other, which is not 0."""
    need_fraction(one)
    need_fraction(other)
    if other[0] == 0:
        raise NoFraction("nothing is parted by 0")
    return lowest(one[0] * other[1], one[1] * other[0])


def is_less(one, other):
    """Tell whether the other is a fraction that the one is less than."""
    need_fraction(one)
    return is_fraction(other) and below(one, other)


def floor_of(one):
    """The greatest whole number that is not above the fraction."""
    need_fraction(one)
    return one[0] // one[1]
