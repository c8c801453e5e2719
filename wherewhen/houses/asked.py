"""Which houses are asked, and what their books have whole."""

from wherewhen.books.book import book_of, ways_in
from wherewhen.cuts.regions import box_of_tile, box_side, gap_to, is_coming_in
from wherewhen.moving.lines import through
from wherewhen.moving.meets import gap_numbers
from wherewhen.moving.rows import still_row
from wherewhen.papers.judge import is_of_pairs
from wherewhen.shapes.rings import bounds


def comes_to_some(row, regions):
    """Tell whether a row comes into one of these regions, from its moment on."""
    if row[1] is None:
        return False
    for region in regions:
        if is_coming_in(row, region):
            return True
    return False


def as_kept(telling, regions):
    """A telling as houses with these regions keep it."""
    if telling[0] == "back" or comes_to_some(telling[2:], regions):
        return telling
    word, name, moment, _, _ = telling
    return (word, name, moment, None, (0, 0))


def book_in(tellings, regions):
    """The book of tellings as houses with these regions keep them together."""
    return book_of([as_kept(telling, regions) for telling in tellings])


def why_left(question, region):
    """Why a house with this region isn't asked, or None where it is; not of what is nearest."""
    if is_of_pairs(question):
        return None
    if question[0] == "count":
        _, level, i, j = question
        return box_side(region, box_of_tile(level, i, j))
    return box_side(region, bounds(question[1]))


def by_gaps(regions, ring):
    """Pairs (gap, house), by the gap of each house's region to a ring, then by number."""
    return sorted([(gap_to(region, ring), house) for house, region in regions.items()])


def is_nearer_through(book, name, ring, spell, gap):
    """Tell whether the gap of a thing, not nowhere, to a ring is less than a number through a spell."""
    still = still_row(ring)
    for part, row in ways_in(book, name, spell):
        if not all([through((gap - start, -slope, True), part) for start, slope in gap_numbers(row, still)]):
            return False
    return True


def are_enough(book, question, steps, gap):
    """Tell whether what is nearest, by these steps, are as many as asked for, all nearer than a number."""
    _, ring, many = question
    for spell, names in steps:
        if len(names) < many or not is_nearer_through(book, names[-1], ring, spell, gap):
            return False
    return True
