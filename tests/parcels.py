"""Cuts and houses by chance, and what they have, reckoned another way than the package does."""

from fractions import Fraction

from books import answer_at, counting, standing_row
from shapes import as_number, box, gap_of, standing

MOST = 10 ** 9
END = 10 ** 6
FOUR = (0, 0, (1, 0, 7, 3), (1, 10, 99, 12))
SIDES = {7: (None, None, 0, 0), 3: (None, 0, 0, None), 99: (0, None, None, 10), 12: (0, 10, None, None)}


def chain(many, first=0):
    """Cuts at 1, 2, .. of so many houses, each upper side cut again: one tuple deeper for each."""
    if many == 1:
        return first
    return (0, first, first, chain(many - 1, first + 1))


def even(deep, low=-64, size=128, house=0):
    """Cuts of 2 ** deep houses, each cut in half by turns."""
    if deep == 0:
        return house
    at = low + size // 2
    return (0, at, even(deep - 1, low, size // 2, 2 * house), even(deep - 1, at, size // 2, 2 * house + 1))


def some_cuts(chances, many, most=6):
    """Cuts of so many houses by chance."""
    cuts, numbers = 0, chances.sample(range(100), many)
    regions = {0: [None, None, None, None]}
    while len(regions) < many:
        house, axis, at = chances.choice(sorted(regions)), chances.randint(0, 1), chances.randint(-most, most)
        least, beyond = regions[house][axis], regions[house][axis + 2]
        if (least is None or least < at) and (beyond is None or at < beyond):
            new = len(regions)
            told = replaced(cuts, house, (axis, at, house, new))
            if depth(told) <= 6:
                cuts = told
                regions[new] = list(regions[house])
                regions[house][axis + 2] = regions[new][axis] = at
    return renamed(cuts, numbers)


def depth(cuts):
    return 1 + max(depth(cuts[2]), depth(cuts[3])) if isinstance(cuts, tuple) else 0


def replaced(cuts, house, other):
    if not isinstance(cuts, tuple):
        return other if cuts == house else cuts
    return cuts[:2] + (replaced(cuts[2], house, other), replaced(cuts[3], house, other))


def renamed(cuts, numbers):
    if not isinstance(cuts, tuple):
        return numbers[cuts]
    return cuts[:2] + (renamed(cuts[2], numbers), renamed(cuts[3], numbers))


def houses_in(cuts):
    return houses_in(cuts[2]) + houses_in(cuts[3]) if isinstance(cuts, tuple) else [cuts]


def path_to(cuts, house):
    """The sides of cuts that lead to a house: rows (axis, at, whether it is the upper one)."""
    if not isinstance(cuts, tuple):
        return [] if cuts == house else None
    for upper in (False, True):
        rest = path_to(cuts[3 if upper else 2], house)
        if rest is not None:
            return [(cuts[0], cuts[1], upper)] + rest
    return None


def region_by_path(cuts, house):
    found = [None, None, None, None]
    for axis, at, upper in path_to(cuts, house):
        found[axis if upper else axis + 2] = at
    return tuple(found)


def is_at(region, place):
    """Whether a place is in a region."""
    return all((region[axis] is None or region[axis] <= place[axis])
               and (region[axis + 2] is None or place[axis] < region[axis + 2]) for axis in (0, 1))


def meets(region, corners):
    """Whether the box of corners has a place of the region: of its places nearest to the region one is."""
    left, low, right, high = box(corners)
    nearest = []
    for axis, least, greatest in ((0, left, right), (1, low, high)):
        worth = least if region[axis] is None else max(least, region[axis])
        nearest.append(min(worth, greatest))
    return is_at(region, nearest)


def all_moments(row, region, begin, end):
    """Moments at which a row's box comes to a side of a region, and some on both sides of each and between."""
    found = {Fraction(begin), Fraction(end)}
    for axis in (0, 1):
        for corner in row[1]:
            for bound in (region[axis], region[axis + 2]):
                if bound is not None and row[2][axis] != 0:
                    found.add(row[0] + Fraction(bound - corner[axis], row[2][axis]))
    rows = sorted(moment for moment in found if begin <= moment <= end)
    return sorted({*rows, *((one + other) / 2 for one, other in zip(rows, rows[1:]))})


def comes_ever(row, region, begin, end=END):
    """Whether a row's box meets a region at some moment from begin to end."""
    if row[1] is None:
        return False
    return any(meets(region, standing(row, moment)) for moment in all_moments(row, region, begin, end))


def kept(told, cuts, houses):
    """The tellings as these houses keep them together."""
    found = []
    for telling in told:
        if telling[0] == "row":
            regions = [region_by_path(cuts, house) for house in houses]
            if not any(comes_ever(telling[2:], region, telling[2]) for region in regions):
                telling = telling[:3] + (None, (0, 0))
        found.append(telling)
    return found


def gap_to(region, ring):
    left, low, right, high = box(ring)
    rows = [0]
    for bound, sign, number in ((0, 1, right), (1, 1, high), (2, -1, left), (3, -1, low)):
        if region[bound] is not None:
            rows.append(sign * (region[bound] - number))
    return max(rows)


def is_nearer(told, name, ring, spell, gap):
    """Whether a thing's gap is less than a number through a spell: its gap by one row is convex in time."""
    begin, end = as_number(spell[0]), as_number(spell[2])
    cuts = [begin] + sorted({telling[2] for telling in counting(told) if begin < telling[2] < end}) + [end]
    for one, other in zip(cuts, cuts[1:]):
        row = standing_row(told, name, (one + other) / 2)
        ways = [(one, spell[1] if one == begin else True), ((one + other) / 2, True),
                (other, spell[3] if other == end else False)]
        for moment, is_in in ways:
            found = gap_of(standing(row, moment), ring)
            if found > gap or is_in and found == gap:
                return False
        if other == end and spell[3] and gap_of(standing(standing_row(told, name, end), end), ring) >= gap:
            return False
    return True


def are_enough(told, question, steps, gap):
    return all(len(names) == question[2] and is_nearer(told, names[-1], question[1], spell, gap)
               for spell, names in steps)


def answers_alike(told, question, steps, moments):
    """Whether the steps tell at each of these moments what a plain walk through the tellings gives."""
    for moment in moments:
        for spell, answer in steps:
            begin, end = as_number(spell[0]), as_number(spell[2])
            if begin < moment < end or moment == begin and spell[1] or moment == end and spell[3]:
                if answer != answer_at(told, question, moment):
                    return False
    return True
