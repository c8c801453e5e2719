"""Points 1, 9, 11: books tell what they told, and refuse what they refused, when each part was looked at one by one."""

import unittest
from fractions import Fraction

from books import END, LETTERS, counting, names_of, row, some_tellings, standing_row
from shapes import SQUARE, as_pair, some_ring
from test_told_alike import is_ring_by_all
from things import ANYTHING, Calls, chance, otherwise, same
from wherewhen.books.book import Book, is_name, is_telling
from wherewhen.errors import NoMoment, NoName, NoNumber, NoTelling, TooMany
from wherewhen.moving.rows import is_row
from wherewhen.numbers.spells import is_moment

T = tuple(row("abcd"[at % 4], moment, SQUARE, (1, 2)) for at, moment in enumerate([0, 5, 10, 3, 8, 1, 6, 11, 4, 9, 2, 7]))
UNIT = ((0, 0), (1, 0), (1, 1), (0, 1))
BACKS = T[:5] + (("back", 1), row("b", 5, None), ("back", 3), row("d", 3, UNIT), ("back", 8))


def whole(thing, least, most):
    return type(thing) is int and least <= thing <= most


def pair(thing, most):
    return type(thing) is tuple and len(thing) == 2 and all(whole(number, -most, most) for number in thing)


def ring_by_all(thing):
    if type(thing) is not tuple or not 1 <= len(thing) <= 8 or not all(pair(corner, 10 ** 9) for corner in thing):
        return False
    return len(thing) == 1 or is_ring_by_all(thing)


def row_by_all(thing):
    if type(thing) is not tuple or len(thing) != 3 or not whole(thing[0], 0, END) or not pair(thing[2], 10 ** 6):
        return False
    return thing[2] == (0, 0) if thing[1] is None else ring_by_all(thing[1])


def name_by_all(thing):
    return type(thing) is str and 1 <= len(thing) <= 8 and all("a" <= letter <= "z" for letter in thing)


def telling_by_all(thing):
    """Whether anything is a telling by its form, each part looked at by itself."""
    if type(thing) is not tuple:
        return False
    if len(thing) == 2:
        return same(thing[0], "back") and type(thing[1]) is int and thing[1] >= 0
    return len(thing) == 5 and same(thing[0], "row") and name_by_all(thing[1]) and row_by_all(thing[2:])


def first_that_is_none(things):
    """The number of the first that is no telling there, or None."""
    free = []
    for number, thing in enumerate(things):
        if not telling_by_all(thing) or thing[0] == "back" and thing[1] not in free:
            return number
        if thing[0] == "back":
            free.remove(thing[1])
        else:
            free.append(number)
    return None


def ways_by_all(told, name):
    moments = sorted({telling[2] for telling in counting(told) if telling[1] == name})
    ends = [((moment, 1), False) for moment in moments[1:]] + [((END, 1), True)]
    return tuple((standing_row(told, name, moment), ((moment, 1), True, *end)) for moment, end in zip(moments, ends))


class BooksAlikeTest(Calls, unittest.TestCase):

    def look_at(self, book, told):
        """All that a book tells, in an order by which nothing was worked out ahead."""
        self.assertEqual(book.told(), tuple(told))
        self.assertEqual(len(book), len(told))
        for name in LETTERS[:6] + ["d", "new"]:
            self.assertEqual(book.ways(name), ways_by_all(told, name))
        self.assertEqual(book.names(), tuple(names_of(told)))
        for telling in told:
            if telling[0] == "row":
                for moment in [telling[2], telling[2] - Fraction(1, 3), telling[2] + Fraction(1, 2), telling[2] + 1]:
                    if 0 <= moment <= END:
                        for name in (telling[1], "a", "d", "new"):
                            wanted = standing_row(told, name, moment)
                            self.assertEqual(book.row_at(name, as_pair(moment)), wanted)

    def test_books(self):
        for told in (T, T * 8, BACKS, (), T[:1]):
            self.look_at(self.told(Book, told), told)
            self.look_at(self.told(Book, list(told)), told)

    def test_as_of(self):
        for told in (T, BACKS, T * 8):
            book = Book(told)
            for number in range(len(told) + 1):
                self.look_at(book.as_of(number), told[:number])
                self.assertEqual(book.as_of(number), Book(told[:number]))
            for thing in [-1, len(told) + 1, True, None, "0"]:
                self.assertIs(self.refused(NoNumber, book.as_of, thing).number, thing)
            self.look_at(book, told)

    def test_whatever_is_asked_first(self):
        asks = [lambda book: book.names(), lambda book: book.ways("a"), lambda book: book.row_at("b", (5, 2)),
                lambda book: book.row_at("new", (5, 2)), lambda book: book.touched(0), lambda book: book.as_of(3).names(),
                lambda book: book.and_told(("back", 0)).ways("a"), lambda book: book == Book(BACKS), lambda book: len(book)]
        wanted = [ask(Book(BACKS)) for ask in asks]
        for first in range(len(asks)):
            for make in (lambda: Book(BACKS), lambda: Book(BACKS + T).as_of(len(BACKS)), lambda: Book(BACKS[:-1]).and_told(BACKS[-1])):
                book = make()
                self.assertEqual([ask(book) for ask in asks[first:] + asks[:first]], wanted[first:] + wanted[:first])

    def test_what_was_handed_in_may_change(self):
        told = list(T)
        book = Book(told)
        told[0] = row("z", 0, None)
        told.append(("back", 0))
        self.look_at(book, T)
        told.clear()
        self.look_at(book, T)
        self.look_at(book.as_of(5), T[:5])

    def test_refusals_of_a_row_with_one_part_otherwise(self):
        for ahead in ((), T[:3], (row("a", 0, UNIT),)):
            for good in (T[3], row("a", 1, UNIT, (1, 0)), row("b", 0, None), ("back", 0), row("eightlet", END, ((1, 0),))):
                for thing in otherwise(good):
                    self.refused_alike(ahead + (thing,))
        for thing in otherwise(T[:3]):
            if type(thing) in (tuple, list):
                self.refused_alike(thing)
            else:
                self.assertEqual(self.refused(NoTelling, Book, thing).number, 0)

    def refused_alike(self, things):
        number = first_that_is_none(things)
        if number is None:
            self.look_at(Book(things), tuple(things))
        else:
            self.assertEqual(self.refused(NoTelling, Book, things).number, number, things)
            if type(things) is tuple and number == len(things) - 1:
                self.assertEqual(self.refused(NoTelling, Book(things[:-1]).and_told, things[-1]).number, number)

    def test_a_ring_alike_the_one_ahead_but_for_a_truth(self):
        ahead = [row("a", 0, UNIT), row("b", 0, None)]
        for at in range(4):
            for part in (0, 1):
                corner = list(UNIT[at])
                for thing in (corner[part] == 1, float(corner[part])):
                    corner[part] = thing
                    ring = UNIT[:at] + (tuple(corner),) + UNIT[at + 1:]
                    self.assertTrue(ring == UNIT)
                    self.assertEqual(self.refused(NoTelling, Book, ahead[:1] + [row("c", 0, ring)]).number, 1)
                    self.assertEqual(self.refused(NoTelling, Book, ahead + [row("c", 0, ring)]).number, 2)
                    self.assertIs(is_telling(row("c", 0, ring)), False)
        for ring in (list(UNIT), ([0, 0],) + UNIT[1:], UNIT[::-1], UNIT[1:] + UNIT[:1], UNIT + UNIT[:1], UNIT[:3], UNIT[:1]):
            self.refused_alike((row("a", 0, UNIT), row("c", 0, ring), row("d", 0, UNIT)))

    def test_is_of_anything(self):
        words = ["a", "z", "az", "abcdefgh", "abcdefghi", "", "A", "aB", "a1", "1", "a b", "\u00e9", "a\u00e9", "\u00aa", "\u00df",
                 "\u01c6", "\u0430", "a\n", "`", "{", "a-", "\u0131", "\ufb01", "a\u0301", "@", "[", "a\x00"]
        for thing in ANYTHING + words:
            self.assertIs(self.truth(is_name, thing), name_by_all(thing), thing)
            self.assertIs(self.truth(is_telling, thing), telling_by_all(thing), thing)
            self.assertIs(self.truth(is_row, thing), row_by_all(thing), thing)
        for good in (T[3], row("b", 0, None), ("back", 7)):
            for thing in otherwise(good):
                self.assertIs(self.truth(is_telling, thing), telling_by_all(thing), thing)
                self.assertIs(self.truth(is_row, thing[2:] if type(thing) is tuple else thing),
                              row_by_all(thing[2:]) if type(thing) is tuple else False)
        for thing in ANYTHING + otherwise((5, 2)) + [(END, 1), (2 * END + 1, 2), (END + 1, 1), (0, 1), (0, 2), (-1, 2), (1, 0), (1, -2)]:
            good = type(thing) is tuple and len(thing) == 2 and type(thing[0]) is int and type(thing[1]) is int
            good = good and thing[1] >= 1 and as_pair(Fraction(*thing)) == thing and 0 <= Fraction(*thing) <= END
            self.assertIs(self.truth(is_moment, thing), good, thing)

    def test_refused_by_ways_and_row_at(self):
        for book in (Book(T), Book(T).as_of(0), Book(T).as_of(7)):
            for thing in ["", "A", "abcdefghi", None, 0, True, ("a",), ["a"], {"a": 1}, {}, []]:
                self.refused(NoName, book.ways, thing)
                self.refused(NoName, book.row_at, thing, None)
            for name in ("a", "new"):
                for thing in [None, 0, (-1, 1), (END + 1, 1), (2, 2), [0, 1], "0", (True, 1), (0, True), (1, False), {}]:
                    self.assertIs(self.refused(NoMoment, book.row_at, name, thing).moment, thing)

    def test_too_many(self):
        names = [row(chr(97 + at), 0, None) for at in range(12)]
        self.assertEqual(len(Book(names).names()), 12)
        self.refused(TooMany, Book, names + [row("z", 0, None)])
        self.refused(TooMany, Book, names[:6] + [("back", 0)] + names[6:] + [row("z", 0, None)])
        self.refused(TooMany, Book(names + [("back", 3)]).and_told, row("z", 0, None))
        self.assertEqual(len(Book(names + [("back", 3)] + names * 7)), 97)
        self.refused(TooMany, Book, T * 8 + T[:5])
        self.assertEqual(len(Book(T * 8 + T[:4])), 100)

    def test_by_chance(self):
        chances = chance(210)
        for _ in range(80):
            told = some_tellings(chances, chances.randint(0, 20))
            shapes = [some_ring(chances, 1) for _ in range(3)]
            # Rings told again and again, and perhaps with a truth in them.
            things = [telling[:3] + (chances.choice(shapes), telling[4]) if telling[0] == "row" else telling for telling in told]
            at = chances.randint(0, len(things))
            for rows in (told, things, things[:at] + [chances.choice(otherwise(T[0]))] + things[at:]):
                self.refused_alike(tuple(rows))


if __name__ == "__main__":
    unittest.main()
