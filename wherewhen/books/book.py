"""Books: tellings in the order in which they came, and the ways of each thing by them.

`book_of`, `rows_at`, `ways_in`, `rows_through` are for the package itself:
they take what was looked at.
"""

from wherewhen.errors import NoName, NoNumber, NoTelling, TooMany
from wherewhen.moving.rows import are_parts_of_row
from wherewhen.numbers.fractions import is_whole
from wherewhen.numbers.spells import END, begin_edge, between, edge_below, need_moment
from wherewhen.numbers.steps import cut_pairs, side_by_side

DAY = 24
MOST_TOLD = 100
MOST_NAMES = 12
MOST_LETTERS = 8


def is_name(thing):
    """Tell whether anything is a name."""
    if not isinstance(thing, str) or len(thing) > MOST_LETTERS:
        return False
    # Of ASCII signs just the small letters are letters and small.
    return thing.isascii() and thing.isalpha() and thing.islower()


def need_name(thing):
    """Refuse what is no name."""
    if not is_name(thing):
        raise NoName("no name of one to eight small letters")


def is_telling(thing):
    """Tell whether anything is a telling, by its form."""
    return is_row_told(thing, None) or is_back(thing)


def is_row_told(thing, known):
    """Tell whether anything is a telling of a row, known being a ring that was looked at, or None."""
    if not isinstance(thing, tuple) or len(thing) != 5:
        return False
    word, name, moment, ring, pace = thing
    return word == "row" and is_name(name) and are_parts_of_row(moment, ring, pace, known)


def is_back(thing):
    """Tell whether anything is a telling that takes one back, by its form."""
    if not isinstance(thing, tuple) or len(thing) != 2:
        return False
    return thing[0] == "back" and is_whole(thing[1]) and thing[1] >= 0


def is_told_behind(thing, counting, known):
    """Tell whether anything is a telling behind those of which these rows count."""
    return is_row_told(thing, known) or is_back(thing) and thing[1] in counting


def take_in(telling, number, counting):
    """Take one more telling into the rows that count, by their numbers."""
    if telling[0] == "row":
        counting[number] = telling
    else:
        counting.pop(telling[1])


def counting_of(tellings):
    """The rows that count of tellings, by their numbers, rising."""
    counting = {}
    for number, telling in enumerate(tellings):
        take_in(telling, number, counting)
    return counting


def counting_of_anything(things):
    """The rows that count of anything, by their numbers; refused is what is no tuple or list of tellings."""
    if not isinstance(things, (tuple, list)):
        raise NoTelling(0)
    counting = {}
    # Many rows have the ring of the row ahead of them, which need not be looked at again as a whole.
    known = None
    for number, thing in enumerate(things):
        if not is_told_behind(thing, counting, known):
            raise NoTelling(number)
        take_in(thing, number, counting)
        if thing[0] == "row":
            known = thing[3]
    return counting


def need_few(tellings):
    """Refuse more tellings, or more names, than there may be."""
    if len(tellings) > MOST_TOLD:
        raise TooMany("more tellings than a book has")
    if len(tellings) <= MOST_NAMES:
        # So few tellings have no more names.
        return
    names = {telling[1]: True for telling in tellings if telling[0] == "row"}
    if len(names) > MOST_NAMES:
        raise TooMany("more names than a book has")


def standing_of(counting):
    """For each name with a standing row its standing rows, by their moments, of the rows that count."""
    found = {}
    for _, name, moment, ring, pace in counting.values():
        if name not in found:
            found[name] = {}
        # The rows come in the order in which they were told, so the last one of a moment stays.
        found[name][moment] = (moment, ring, pace)
    return found


def ways_of(rows):
    """The ways by standing rows, which go by their moments."""
    found = []
    end, with_end = (END, 1), True
    for moment in sorted(rows, reverse=True):
        begin = (moment, 1)
        found.append((rows[moment], (begin, True, end, with_end)))
        end, with_end = begin, False
    return tuple(found[::-1])


def book_of(tellings):
    """The book of tellings that were looked at, as few as there may be."""
    book = Book()
    book._told = tuple(tellings)
    book._counting = None
    return book


def row_in(ways, moment):
    """The row of the way that has a moment, or None ahead of all of them."""
    over, under = moment
    found = None
    for row, _ in ways:
        if row[0] * under > over:
            break
        found = row
    return found


def rows_at(book, moment):
    """Pairs (name, row) of the things that are not nowhere at a moment, names rising."""
    found = []
    for name in book.names():
        row = row_in(book.ways(name), moment)
        if row is not None and row[1] is not None:
            found.append((name, row))
    return found


def ways_in(book, name, stretch):
    """The stretch in parts, each with the row of the thing's way, None where it is nowhere."""
    edge = ((0, 1), False)
    ways = book.ways(name)
    pairs = []
    if edge_below(edge, begin_edge(ways[0][1])):
        pairs.append((between(edge, begin_edge(ways[0][1])), None))
    for row, spell in ways:
        pairs.append((spell, None if row[1] is None else row))
    return cut_pairs(pairs, stretch)


def rows_through(book, stretch):
    """The stretch in parts, each with such a row of each of the book's names, in one way of each of them."""
    return side_by_side([ways_in(book, name, stretch) for name in book.names()], stretch)


class Book:
    """Tellings, numbered from 0; a book never changes.

    What is worked out of the tellings is worked out where it is first asked
    for, and kept.
    """

    def __init__(self, tellings=()):
        counting = counting_of_anything(tellings)
        need_few(tellings)
        self._told = tuple(tellings)
        self._counting = counting
        self._ways = None

    def __eq__(self, other):
        return isinstance(other, Book) and self._told == other._told

    def __len__(self):
        return len(self._told)

    def told(self):
        """All tellings, in order."""
        return self._told

    def and_told(self, telling):
        """The book with one more telling."""
        if not is_told_behind(telling, self._rows_that_count(), None):
            raise NoTelling(len(self._told))
        tellings = (*self._told, telling)
        need_few(tellings)
        return book_of(tellings)

    def as_of(self, number):
        """The book of the first so many tellings."""
        if not is_whole(number) or not 0 <= number <= len(self._told):
            raise NoNumber(number)
        return book_of(self._told[:number])

    def names(self):
        """The names with a standing row, rising."""
        if self._ways is None:
            self._find_ways()
        return tuple(sorted(self._ways))

    def ways(self, name):
        """The ways (row, spell) of a thing, rising."""
        if self._ways is None:
            self._find_ways()
        if isinstance(name, str) and name in self._ways:
            return self._ways[name]
        need_name(name)
        return ()

    def row_at(self, name, moment):
        """The standing row of a thing at a moment, or None ahead of its first."""
        ways = self.ways(name)
        need_moment(moment)
        return row_in(ways, moment)

    def touched(self, number):
        """The spell beyond which a telling changes no answer."""
        if not is_whole(number) or not 0 <= number < len(self._told):
            raise NoNumber(number)
        telling = self._told[number]
        row = self._told[telling[1]] if telling[0] == "back" else telling
        name, moment = row[1], row[2]
        for way, spell in self.as_of(number + 1).ways(name):
            if way[0] > moment:
                return ((moment, 1), True, spell[0], False)
        return ((moment, 1), True, (END, 1), True)

    def _rows_that_count(self):
        """The rows that count, by their numbers, rising."""
        if self._counting is None:
            self._counting = counting_of(self._told)
        return self._counting

    def _find_ways(self):
        """Work out the ways of each name with a standing row."""
        standing = standing_of(self._rows_that_count())
        self._ways = {name: ways_of(rows) for name, rows in standing.items()}
