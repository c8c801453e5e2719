"""Points 1, 11, 12: tellings, books, which row stands, ways, what a telling touches."""

import unittest
from fractions import Fraction

from books import END, LETTERS, NO_NAMES, NO_TELLINGS, answer_at, names_of, row, some_questions, some_tellings
from books import standing_row
from shapes import OCTAGON, SQUARE, TRIANGLE, as_pair
from test_lines import of
from things import ANYTHING, SIXTY, Calls, chance, otherwise
from wherewhen.asks.plain import answer
from wherewhen.books.book import DAY, MOST_NAMES, MOST_TOLD, Book, is_name, is_telling
from wherewhen.errors import NoMoment, NoName, NoNumber, NoTelling, TooMany
from wherewhen.numbers.spells import has

NO_COUNTS = [True, False, None, "0", (0, 1), [0], {}, -1, -SIXTY, SIXTY]
LAST = of(0, END)
BOOK = [row("a", 4, SQUARE, (1, 0)), row("b", 0, TRIANGLE), row("a", 1, None), ("back", 0), row("a", 4, OCTAGON)]
FINE = [Fraction(k, 3) for k in range(0, 3 * 15)] + [Fraction(END)]


class TellingTest(Calls, unittest.TestCase):

    def test_is_telling(self):
        for thing in [row("a", 0, SQUARE, (1, -1)), row("abcdefgh", END, None), row("zz", 7, ((0, 0),), (10 ** 6, -10 ** 6)),
                      ("back", 0), ("back", 99), ("back", 100), ("back", SIXTY)]:
            self.assertIs(self.truth(is_telling, thing), True)
        for thing in NO_TELLINGS + [row(name, 0, SQUARE) for name in NO_NAMES]:
            self.assertIs(self.truth(is_telling, thing), False, thing)

    def test_is_telling_of_anything(self):
        for thing in otherwise(row("a", 3, SQUARE, (1, 0))):
            self.truth(is_telling, thing)
            if is_telling(thing):
                self.assertEqual((thing[0], len(thing)), ("row", 5) if len(thing) == 5 else ("back", 2))
                self.assertEqual(Book([thing]).told(), (thing,))
            else:
                self.assertEqual(self.refused(NoTelling, Book, (thing,)).number, 0)
        for thing in ANYTHING + otherwise(("back", 0)):
            wanted = isinstance(thing, tuple) and len(thing) in (2, 5) and thing[0] in ("back", "row")
            if not wanted:
                self.assertIs(self.truth(is_telling, thing), False)

    def test_names(self):
        for thing in ["a", "z", "abcdefgh", "zzzzzzzz", "m"]:
            self.assertIs(is_name(thing), True)
            self.assertEqual(Book().ways(thing), ())
        for thing in NO_NAMES:
            self.assertIs(is_name(thing), False)
            self.refused(NoName, Book().ways, thing)
            self.refused(NoName, Book().row_at, thing, None)


class BookTest(Calls, unittest.TestCase):

    def test_numbers(self):
        self.assertEqual((DAY, MOST_TOLD, MOST_NAMES), (24, 100, 12))

    def test_empty(self):
        book = Book()
        self.assertEqual((len(book), book.told(), book.names(), book.ways("a")), (0, (), (), ()))
        self.assertIsNone(book.row_at("a", (0, 1)))
        self.assertEqual(book, Book([]))
        self.assertEqual(book.as_of(0), book)

    def test_told(self):
        told = list(BOOK)
        book = self.told(Book, told)
        self.assertEqual(book.told(), tuple(BOOK))
        self.assertEqual(len(book), 5)
        told.append(("back", 1))
        told[0] = row("c", 0, None)
        self.assertEqual(book.told(), tuple(BOOK))
        self.assertEqual(book.names(), ("a", "b"))
        self.assertEqual(Book(tuple(BOOK)), book)

    def test_ways(self):
        book = Book(BOOK)
        self.assertEqual(self.told(book.ways, "a"), (((1, None, (0, 0)), of(1, 4, (True, False))),
                                                     ((4, OCTAGON, (0, 0)), of(4, END))))
        self.assertEqual(self.told(book.ways, "b"), (((0, TRIANGLE, (0, 0)), LAST),))
        self.assertEqual(self.told(book.ways, "c"), ())
        self.assertEqual(book.as_of(3).ways("a")[1], ((4, SQUARE, (1, 0)), of(4, END)))
        self.assertEqual(book.as_of(4).ways("a"), (((1, None, (0, 0)), of(1, END)),))

    def test_a_row_at_the_end(self):
        book = Book([row("a", END, SQUARE), row("a", 0, TRIANGLE)])
        self.assertEqual(book.ways("a"), (((0, TRIANGLE, (0, 0)), of(0, END, (True, False))),
                                          ((END, SQUARE, (0, 0)), of(END, END))))
        self.assertEqual(book.row_at("a", (END, 1)), (END, SQUARE, (0, 0)))
        self.assertEqual(book.row_at("a", (2 * END - 1, 2)), (0, TRIANGLE, (0, 0)))
        self.assertEqual(book.touched(0), of(END, END))
        self.assertEqual(book.touched(1), of(0, END, (True, False)))

    def test_row_at(self):
        book = Book(BOOK)
        for moment, wanted in [((0, 1), None), ((1, 2), None), ((1, 1), (1, None, (0, 0))), ((7, 2), (1, None, (0, 0))),
                               ((4, 1), (4, OCTAGON, (0, 0))), ((END, 1), (4, OCTAGON, (0, 0)))]:
            self.assertEqual(self.told(book.row_at, "a", moment), wanted)
        self.assertIsNone(book.row_at("c", (0, 1)))
        for thing in [None, 0, (-1, 1), (END + 1, 1), (2, 2), [0, 1], "0"]:
            self.assertIs(self.refused(NoMoment, book.row_at, "a", thing).moment, thing)
            self.assertIs(self.refused(NoMoment, book.row_at, "c", thing).moment, thing)
            self.refused(NoName, book.row_at, "A", thing)

    def test_the_last_that_counts_stands(self):
        rows = [row("a", 5, SQUARE), row("a", 5, TRIANGLE), row("a", 5, OCTAGON)]
        book = Book(rows)
        self.assertEqual(book.row_at("a", (5, 1))[1], OCTAGON)
        self.assertEqual(book.and_told(("back", 1)).row_at("a", (5, 1))[1], OCTAGON)
        self.assertEqual(book.and_told(("back", 2)).row_at("a", (5, 1))[1], TRIANGLE)
        self.assertEqual(book.and_told(("back", 2)).and_told(("back", 1)).row_at("a", (5, 1))[1], SQUARE)
        none = book.and_told(("back", 2)).and_told(("back", 1)).and_told(("back", 0))
        self.assertEqual((none.names(), none.ways("a"), none.row_at("a", (5, 1))), ((), (), None))
        self.assertEqual(none.and_told(row("a", 5, SQUARE)).names(), ("a",))

    def test_backs(self):
        book = Book([row("a", 5, SQUARE), ("back", 0), row("b", 5, SQUARE)])
        for number in [0, 1, 3, 4, 100, SIXTY, -1]:
            self.assertEqual(self.refused(NoTelling, book.and_told, ("back", number)).number, 3)
            self.assertEqual(self.refused(NoTelling, Book, book.told() + (("back", number), None)).number, 3)
        self.assertEqual(book.and_told(("back", 2)).names(), ())
        self.assertEqual(self.refused(NoTelling, Book, [("back", 0)]).number, 0)
        self.assertEqual(self.refused(NoTelling, Book, [row("a", 0, None), ("back", 2), row("a", 0, None)]).number, 1)

    def test_no_tellings(self):
        for thing in ANYTHING + [dict(enumerate(BOOK)), Book(BOOK)]:
            if not isinstance(thing, (tuple, list)):
                self.assertEqual(self.refused(NoTelling, Book, thing).number, 0)
        for thing in NO_TELLINGS:
            self.assertEqual(self.refused(NoTelling, Book, [thing, thing]).number, 0)
            self.assertEqual(self.refused(NoTelling, Book, (*BOOK, thing)).number, 5)
            self.assertEqual(self.refused(NoTelling, Book(BOOK).and_told, thing).number, 5)

    def test_too_many_tellings(self):
        many = [row("a", number, SQUARE) for number in range(100)]
        book = Book(many)
        self.assertEqual(len(book), 100)
        self.refused(TooMany, Book, many + [row("a", 0, SQUARE)])
        self.refused(TooMany, Book, many + [("back", 0)])
        self.refused(TooMany, book.and_told, ("back", 7))
        self.refused(TooMany, book.and_told, row("a", 0, SQUARE))
        self.assertEqual(self.refused(NoTelling, book.and_told, ("back", 100)).number, 100)
        self.assertEqual(self.refused(NoTelling, Book, many + [row("b", 0, None), ("back", 101)]).number, 101)

    def test_too_many_names(self):
        many = [row(name, 3, SQUARE) for name in LETTERS]
        self.assertEqual(Book(many).names(), tuple(sorted(LETTERS)))
        self.refused(TooMany, Book, many + [row("new", 0, None)])
        self.refused(TooMany, Book(many).and_told, row("new", 0, None))
        backs = many + [("back", 0), ("back", 5)]
        self.assertEqual(len(Book(backs).names()), 10)
        self.refused(TooMany, Book(backs).and_told, row("new", 0, None))
        self.assertEqual(self.refused(NoTelling, Book, many + [row("new", 0, None), None]).number, 13)
        self.assertEqual(Book(backs).and_told(row("a", 9, None)).ways("a")[0][0], (9, None, (0, 0)))

    def test_and_told(self):
        book = Book(BOOK[:4])
        more = self.told(book.and_told, BOOK[4])
        self.assertEqual(more, Book(BOOK))
        self.assertEqual(book, Book(BOOK[:4]))
        self.assertIs(type(more), Book)

    def test_as_of(self):
        book = Book(BOOK)
        for number in range(6):
            self.assertEqual(self.told(book.as_of, number), Book(BOOK[:number]))
            self.assertEqual(book.as_of(number).told(), tuple(BOOK[:number]))
        for thing in NO_COUNTS + [6]:
            self.assertIs(self.refused(NoNumber, book.as_of, thing).number, thing)
        self.assertEqual(book, Book(BOOK))

    def test_equal(self):
        self.assertTrue(Book(BOOK) == Book(tuple(BOOK)))
        self.assertFalse(Book(BOOK) == Book(BOOK[:4]))
        self.assertFalse(Book(BOOK) == Book(BOOK[1:2] + BOOK[:1] + BOOK[2:3]))
        self.assertTrue(Book(BOOK) != Book())
        # The same ways, by other tellings.
        self.assertFalse(Book(BOOK[:2]) == Book(BOOK[1::-1]))
        for thing in ANYTHING + [tuple(BOOK), BOOK]:
            self.assertIs(Book(BOOK) == thing, False)
            self.assertIs(Book() == thing, False)

    def test_by_chance(self):
        chances = chance(40)
        for _ in range(150):
            told = some_tellings(chances, chances.randint(0, 14))
            book = Book(told)
            self.assertEqual(book.names(), tuple(names_of(told)))
            for name in LETTERS[:5]:
                self.look_at_ways(book, told, name)

    def look_at_ways(self, book, told, name):
        ways = book.ways(name)
        self.assertEqual(sorted(ways, key=lambda way: way[0][0]), list(ways))
        for moment in FINE:
            wanted = standing_row(told, name, moment)
            self.assertEqual(book.row_at(name, as_pair(moment)), wanted)
            self.assertEqual([way for way, spell in ways if has(spell, as_pair(moment))], [wanted] if wanted else [])


class TouchedTest(Calls, unittest.TestCase):

    def test_touched(self):
        told = [row("a", 5, SQUARE), row("a", 9, SQUARE), row("a", 2, SQUARE), row("b", 7, SQUARE), row("a", 5, None),
                ("back", 4), ("back", 0), ("back", 1), row("a", 4, SQUARE)]
        book = Book(told)
        wanted = [of(5, END), of(9, END), of(2, 5, (True, False)), of(7, END), of(5, 9, (True, False)),
                  of(5, 9, (True, False)), of(5, 9, (True, False)), of(9, END), of(4, END)]
        for number, spell in enumerate(wanted):
            self.assertEqual(self.told(book.touched, number), spell, number)
        for thing in NO_COUNTS + [9]:
            self.assertIs(self.refused(NoNumber, book.touched, thing).number, thing)
        self.refused(NoNumber, Book().touched, 0)

    def test_nothing_else_changes(self):
        chances = chance(41)
        for _ in range(40):
            told = some_tellings(chances, 8, names=3)
            questions = some_questions(chances)
            number = chances.randrange(8)
            spell = Book(told).touched(number)
            ahead, behind = Book(told[:number]), Book(told[:number + 1])
            for moment in [Fraction(k, 2) for k in range(30)] + [Fraction(END)]:
                if not has(spell, as_pair(moment)):
                    for question in questions:
                        self.assertEqual(answer(ahead, question, as_pair(moment)),
                                         answer(behind, question, as_pair(moment)))

    def test_any_order_leads_to_the_same_ways(self):
        chances = chance(42)
        for _ in range(60):
            told = [row for row in some_tellings(chances, 12) if row[0] == "row"]
            last = {row[1:3]: row for row in told}
            rows = list(last.values())
            chances.shuffle(rows)
            book = Book(told)
            other = Book(rows)
            between = []
            for row in rows:
                between += [("row", row[1], chances.randint(0, 12), SQUARE, (0, 0)), ("back", len(between)), row]
            for name in LETTERS[:4]:
                self.assertEqual(book.ways(name), other.ways(name))
                self.assertEqual(book.ways(name), Book(between).ways(name))

    def test_the_oracle_and_the_book(self):
        told = [row("a", 0, SQUARE), row("b", 0, TRIANGLE)]
        self.assertEqual(answer(Book(told), ("meets",), (0, 1)), answer_at(told, ("meets",), Fraction(0)))


if __name__ == "__main__":
    unittest.main()
