"""Cuts: all places shared out among houses, each place to one of them.

`regions_in`, `need_house_in`, `cut_in`, `uncut_in` are for the package
itself: they take cuts that were looked at.
"""

from wherewhen.cuts.regions import EVERYWHERE, is_bound, parts_of_region
from wherewhen.errors import NoCut, NoCuts, NoHouse, NoPlace, TooMany
from wherewhen.numbers.fractions import is_whole
from wherewhen.shapes.places import is_place

WHOLE = 0
MOST_HOUSES = 16
GREATEST_HOUSE = 99
MOST_DEEP = 6


def is_number_of_house(thing):
    """Tell whether anything is a number that a house may have."""
    return is_whole(thing) and 0 <= thing <= GREATEST_HOUSE


def is_axis(thing):
    """Tell whether anything is an axis: 0 for x, 1 for y."""
    return is_whole(thing) and (thing == 0 or thing == 1)


def take_houses(thing, region, deep, found):
    """Take the houses of anything, as cuts of a region at most so deep, and tell whether it is cut so."""
    if is_number_of_house(thing):
        found.append(thing)
        return True
    if deep == 0 or not isinstance(thing, tuple) or len(thing) != 4:
        return False
    axis, at, lower, upper = thing
    if not is_axis(axis) or not is_bound(at):
        return False
    parts = parts_of_region(region, axis, at)
    if None in parts:
        return False
    return take_houses(lower, parts[0], deep - 1, found) and take_houses(upper, parts[1], deep - 1, found)


def is_cuts(thing):
    """Tell whether anything is cuts."""
    found = []
    if not take_houses(thing, EVERYWHERE, MOST_DEEP, found):
        return False
    return len(found) <= MOST_HOUSES and len(set(found)) == len(found)


def need_cuts(thing):
    """Refuse what is no cuts."""
    if not is_cuts(thing):
        raise NoCuts("no house, and no cut (axis, at, lower, upper)")


def regions_below(cuts, region, found):
    """Give each house of cuts of a region its own region."""
    if not isinstance(cuts, tuple):
        found[cuts] = region
        return
    axis, at, lower, upper = cuts
    parts = parts_of_region(region, axis, at)
    regions_below(lower, parts[0], found)
    regions_below(upper, parts[1], found)


def regions_in(cuts):
    """The region of each house, by the houses' numbers, rising."""
    found = {}
    regions_below(cuts, EVERYWHERE, found)
    return {house: found[house] for house in sorted(found)}


def need_house_in(houses, thing):
    """Refuse what is none of these houses."""
    if not is_whole(thing) or thing not in houses:
        raise NoHouse(thing)


def houses_of(cuts):
    """The houses of cuts, rising."""
    need_cuts(cuts)
    return tuple(regions_in(cuts))


def region_of(cuts, house):
    """The region of a house."""
    need_cuts(cuts)
    regions = regions_in(cuts)
    need_house_in(regions, house)
    return regions[house]


def house_at(cuts, place):
    """The house in whose region a place is."""
    need_cuts(cuts)
    if not is_place(place):
        raise NoPlace("no place (x, y) of fractions")
    rest = cuts
    while isinstance(rest, tuple):
        axis, at, lower, upper = rest
        over, under = place[axis]
        rest = lower if over < at * under else upper
    return rest


def cut_at(cuts, house, axis, at):
    """The cuts with one house cut, and the house that came."""
    need_cuts(cuts)
    return cut_in(cuts, house, axis, at)


def cut_in(cuts, house, axis, at):
    """The cuts with one house cut, and the house that came, of cuts that were looked at."""
    regions = regions_in(cuts)
    need_house_in(regions, house)
    if not is_axis(axis) or not is_bound(at) or None in parts_of_region(regions[house], axis, at):
        raise NoCut("no cut with places on both sides")
    # Of so many houses some number is free, and is the least that is: there are more numbers than houses.
    new = min([number for number in range(len(regions) + 1) if number not in regions])
    told = with_instead(cuts, house, (axis, at, house, new))
    if not is_cuts(told):
        raise TooMany("more houses, or deeper cuts, than there may be")
    return (told, new)


def with_instead(cuts, part, other):
    """The cuts with another part in the place of one."""
    if cuts == part:
        return other
    if not isinstance(cuts, tuple):
        return cuts
    axis, at, lower, upper = cuts
    return (axis, at, with_instead(lower, part, other), with_instead(upper, part, other))


def uncut(cuts, house):
    """The cuts with two houses made one, and the house that went."""
    need_cuts(cuts)
    told, _, gone = uncut_in(cuts, house)
    return (told, gone)


def uncut_in(cuts, house):
    """The cuts with two houses made one, the one that stays and the one that went, of cuts that were looked at."""
    need_house_in(regions_in(cuts), house)
    cut = cut_of(cuts, house)
    if cut is None or isinstance(cut[2], tuple) or isinstance(cut[3], tuple):
        raise NoCut("the house is no side of a cut with another one")
    _, _, lower, upper = cut
    return (with_instead(cuts, cut, lower), lower, upper)


def cut_of(cuts, house):
    """The cut of which a house is a side, or None."""
    if not isinstance(cuts, tuple):
        return None
    if house == cuts[2] or house == cuts[3]:
        return cuts
    found = cut_of(cuts[2], house)
    return cut_of(cuts[3], house) if found is None else found
