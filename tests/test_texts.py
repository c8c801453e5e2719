"""Points 1, 29: texts as they are written, and read back."""

import unittest
from fractions import Fraction

from books import END, NO_QUESTIONS, NO_TELLINGS, QUESTIONS, answer_at, row, some_moments, some_questions, some_tellings
from shapes import NO_RINGS, OCTAGON, SIDE, SQUARE, as_pair, some_ring
from test_lines import NO_SPELLS, of
from test_papers import some_stretch
from test_regions import dot
from things import ANYTHING, SIXTY, Calls, chance, same
from wherewhen.books.book import Book
from wherewhen.errors import NoFraction, NoQuestion, NoRing, NoSpell, NoSteps, NoTelling, NoText
from wherewhen.papers.finder import timeline
from wherewhen.words.texts import answer_text, fraction_text, question_text, read_fraction, read_question, read_ring
from wherewhen.words.texts import read_spell, read_telling, ring_text, spell_text, steps_text, telling_text

READERS = (read_fraction, read_spell, read_ring, read_telling, read_question)
FRACTIONS = {"0": (0, 1), "7": (7, 1), "-7": (-7, 1), "1/2": (1, 2), "-1/2": (-1, 2), "22/7": (22, 7), "10": (10, 1),
             "9" * 60: (10 ** 60 - 1, 1), "-" + "9" * 60: (1 - 10 ** 60, 1), "1" + "0" * 59: (10 ** 59, 1),
             "1/" + "9" * 60: (1, 10 ** 60 - 1), "-100/3": (-100, 3)}
NO_FRACTIONS = ["", "-", "/", "-0", "+1", "00", "01", "-01", "007", "1/", "/2", "1/1", "3/1", "-3/1", "2/4", "0/2",
                "0/1", "1/0", "1/-2", "-1/-2", "1/02", "01/2", "-0/1", "1/2/3", "1//2", " 1", "1 ", "1 /2", "1/ 2",
                "1\n", "\n1", "1.5", "1,5", "1_0", "0x1", "1e3", "a", "--1", "- 1", "1-", "\u0663", "\u00b2", "9" * 61,
                "-" + "9" * 61, "1/" + "9" * 61, "1" + "0" * 60, "0" * 60, "0" * 61, "1" * 4000, "1" * 4001,
                "1" * 10 ** 5, "(0)", "[0]", "True", "None"]
SPELLS = {"[0 3/2)": ((0, 1), True, (3, 2), False), "(1 5]": ((1, 1), False, (5, 1), True),
          "[0 0]": ((0, 1), True, (0, 1), True), "(1/3 1/2)": ((1, 3), False, (1, 2), False), "[0 1000000]": of(0, END),
          "[999999 1000000)": of(END - 1, END, (True, False))}
NO_SPELL_TEXTS = ["", "[", "]", "[]", "[ ]", "()", "0 1", "[0 1", "0 1]", "[0]", "[0 1 2]", "[0  1]", "[ 0 1]",
                  "[0 1 ]", " [0 1]", "[0 1] ", "[0,1]", "]0 1[", "{0 1}", "[0 1}", "[1 0]", "[1 1)", "(1 1]", "(1 1)",
                  "[-1 1]", "[0 1000001]", "[0 2/4]", "[00 1]", "[0 +1]", "[-0 1]", "[[0 1]]", "[0 1]]", "[0 1]\n",
                  "[0\n1]", "[0 1/]", "[0\t1]", "[ 1]", "[0 ]"]
RINGS = {"-": None, "0,0": dot(0, 0), "-1,5 3,-4": ((-1, 5), (3, -4)), "0,0 4,0 4,4 0,4": SQUARE,
         "1000000000,-1000000000": ((10 ** 9, -10 ** 9),), "1,0 2,0 3,1 3,2 2,3 1,3 0,2 0,1": OCTAGON}
NO_RING_TEXTS = ["", " ", "--", "- ", " -", "-,-", "0", "0,", ",0", "0,0,0", "0, 0", "0 ,0", "0,0 ", " 0,0", "0,0  1,1",
                 "0,0 0,0", "0,0;1,1", "0,0 1,1 2,2", "0,4 4,4 4,0 0,0", "0,0 4,0 4,4 2,2", "1000000001,0",
                 "0,-1000000001", "00,0", "-0,0", "+1,0", "1/2,0", "0,0\n1,1", "0,0 -", "- 0,0", "(0,0)",
                 "1,0 2,0 3,1 3,2 2,3 1,3 0,2 0,1 0,1", "0,0 1", "None", " ".join(["0,0"] * 1000)]
TELLINGS = {"row a 0 0,0 0,0": row("a", 0, dot(0, 0)),
            "row eightlet 1000000 -1000000,1000000 0,0 4,2": row("eightlet", END, SIDE, (-10 ** 6, 10 ** 6)),
            "row z 24 0,0 -": row("z", 24, None), "back 0": ("back", 0), "back 99": ("back", 99),
            "back " + "9" * 60: ("back", SIXTY), "row b 3 1,-1 0,0 4,0 4,4 0,4": row("b", 3, SQUARE, (1, -1))}
NO_TELLING_TEXTS = ["", "row", "back", "row ", "back ", "back -1", "back -0", "back 00", "back 1 2", "back  1",
                    "back 1 ", " back 1", "Back 1", "back 1/2", "back +1", "back " + "9" * 61, "back -", "back\n1",
                    "row a", "row a 0", "row a 0 0,0", "row a 0 0,0 ", "row A 0 0,0 0,0", "row ninelette 0 0,0 0,0",
                    "row  0 0,0 0,0", "row a1 0 0,0 0,0", "row a -1 0,0 0,0", "row a 1000001 0,0 0,0",
                    "row a 1/2 0,0 0,0", "row a 00 0,0 0,0", "row a 0 0,0 0,0 ", "row a 0 0,0  0,0", "row  a 0 0,0 0,0",
                    "row a  0 0,0 0,0", "row a 0  0,0 0,0", "row a 0 1,0 -", "row a 0 0 0,0", "row a 0 0,0,0 0,0",
                    "row a 0 1000001,0 0,0", "row a 0 0,0 0,0 0,0", "row a 0 0,0 None", "ROW a 0 0,0 0,0",
                    "tell a 0 0,0 0,0", "row a 0 -0,0 0,0", "row - 0 0,0 0,0", "row a 0 0,0 0,0\n", "border a 0 0,0",
                    "row a 0 - 0,0", "row a,b 0 0,0 0,0", "row \u00e9 0 0,0 0,0"]
ASKED = {"touching 0,0": ("touching", dot(0, 0)), "within 0,0 4,0 4,4 0,4": ("within", SQUARE),
         "holding 0,0 4,2": ("holding", SIDE), "nearest 1 0,0": ("nearest", dot(0, 0), 1),
         "nearest 12 0,0 4,2": ("nearest", SIDE, 12), "meets": ("meets",), "close 0": ("close", 0),
         "close 1000000000": ("close", 10 ** 9), "count 0 0 0": ("count", 0, 0, 0),
         "count 30 -5 1000000000": ("count", 30, -5, 10 ** 9)}
NO_ASKED = ["", " ", "meets ", " meets", "meet", "Meets", "meets 0", "meets\n", "touching", "touching ", "touching -",
            "touching 0", "touching  0,0", "touching 0,0 ", "touching 0,4 4,4 4,0 0,0", "nearest", "nearest 1",
            "nearest 1 ", "nearest 0 0,0", "nearest 13 0,0", "nearest 0,0 1", "nearest 01 0,0", "nearest 1  0,0",
            "nearest 1 -", "nearest -1 0,0", "close", "close ", "close -1", "close 1000000001", "close 00", "close 1/2",
            "close 1 ", "close  1", "count", "count 0 0", "count 0 0 0 0", "count -1 0 0", "count 31 0 0",
            "count 0 0 -0", "count 0  0 0", "count 0 1000000001 0", "count 0 0,0", "counts 0 0 0", "row a 0 0,0 0,0",
            "0 0 0", "count 0 0 " + "9" * 61, "within -", "holding -", "touching 0,0 over [0 1]", "meets over [0 1]"]


class ReadTest(Calls, unittest.TestCase):

    def look_at(self, rows, none, write, read):
        """What is written just so is read back, and nothing else is."""
        for text, thing in rows.items():
            self.assertTrue(same(self.told(read, text), thing), text)
            self.assertEqual(self.told(write, thing), text)
        for text in none:
            self.refused(NoText, read, text)
        for text in rows:
            for at in range(len(text)):
                for other in [text[:at] + text[at + 1:], text[:at] + " " + text[at:], text[:at] + "0" + text[at:],
                              text[:at] + "-" + text[at:], text[:at] + "\n" + text[at:], text[:at] + "," + text[at + 1:]]:
                    try:
                        found = read(other)
                    except NoText:
                        continue
                    self.assertEqual(write(found), other)

    def test_fractions(self):
        self.look_at(FRACTIONS, NO_FRACTIONS, fraction_text, read_fraction)

    def test_spells(self):
        self.look_at(SPELLS, NO_SPELL_TEXTS, spell_text, read_spell)

    def test_rings(self):
        self.look_at(RINGS, NO_RING_TEXTS, ring_text, read_ring)

    def test_tellings(self):
        self.look_at(TELLINGS, NO_TELLING_TEXTS, telling_text, read_telling)

    def test_questions(self):
        self.look_at(ASKED, NO_ASKED, question_text, read_question)

    def test_what_no_text_is(self):
        for read in READERS:
            for thing in ANYTHING + [b"0", b"meets", list("meets"), ("m",), SIXTY, "x" * 4001, " " * 10 ** 5, "[" * 4000]:
                if not isinstance(thing, str) or thing not in ("0/1", "[0 1]"):
                    self.refused(NoText, read, thing)

    def test_what_is_read_as_one_kind_alone(self):
        rows = [FRACTIONS, SPELLS, RINGS, TELLINGS, ASKED]
        for number, read in enumerate(READERS):
            for other in range(5):
                for text in rows[other]:
                    if other != number:
                        self.refused(NoText, read, text)

    def test_by_chance(self):
        chances = chance(170)
        for _ in range(60):
            for telling in some_tellings(chances, 6):
                self.assertEqual(read_telling(telling_text(telling)), telling)
            for question in some_questions(chances):
                self.assertEqual(read_question(question_text(question)), question)
            ring, spell = some_ring(chances, 50), some_stretch(chances)
            self.assertEqual(read_ring(ring_text(ring)), ring)
            self.assertEqual(read_spell(spell_text(spell)), spell)
            one = as_pair(Fraction(chances.randint(-99, 99), chances.randint(1, 99)))
            self.assertEqual(read_fraction(fraction_text(one)), one)


class WriteTest(Calls, unittest.TestCase):

    def test_however_great(self):
        for digits in (59, 60, 61, 119, 120, 121, 4300, 4301, 9000):
            for number in (10 ** (digits - 1), 10 ** digits - 1, -(10 ** digits) + 1, 7 * 10 ** (digits - 1) + 5):
                told = self.told(fraction_text, (number, 1))
                sign, figures = ("-", told[1:]) if number < 0 else ("", told)
                self.assertEqual(len(figures), digits)
                whole = 0
                for at in range(0, digits, 50):
                    whole = whole * 10 ** len(figures[at:at + 50]) + int(figures[at:at + 50])
                self.assertEqual(whole if not sign else -whole, number)
                self.assertTrue(figures.isdigit() and figures[0] != "0")
        self.assertEqual(fraction_text((1, 10 ** 5000)), "1/1" + "0" * 5000)
        self.assertEqual(telling_text(("back", 10 ** 5000)), "back 1" + "0" * 5000)
        begin = (1, 10 ** 5000)
        self.assertEqual(spell_text((begin, True, (1, 1), False)), "[1/1" + "0" * 5000 + " 1)")

    def test_answers(self):
        for told, text in [((), "-"), (("a",), "a"), (("b", "a"), "b a"), ((("a", "b"),), "a+b"), ((("a", "b"), ("a", "c")), "a+b a+c"),
                           ((("b", "c"), ("a", "b")), "b+c a+b"), (0, "0"), (7, "7"), (12, "12")]:
            self.assertEqual(self.told(answer_text, told), text)

    def test_steps(self):
        steps = ((of(0, 4, (True, False)), ("a", "b")), (of(4, 4), ()), (((4, 1), False, (9, 2), True), ("b",)))
        self.assertEqual(self.told(steps_text, steps), "[0 4) a b ; [4 4] - ; (4 9/2] b")
        self.assertEqual(self.told(steps_text, ((of(0, 9), 0),)), "[0 9] 0")
        self.assertEqual(self.told(steps_text, ((of(0, 2), (("a", "b"),)), (of(2, 9, (False, False)), ()))), "[0 2] a+b ; (2 9) -")
        told = [row("a", 0, dot(0, 0), (1, 0)), row("b", 0, dot(9, 0))]
        self.assertEqual(steps_text(timeline(Book(told), ("meets",), of(0, 20))), "[0 9) - ; [9 9] a+b ; (9 20] -")
        self.assertEqual(steps_text(timeline(Book(told), ("count", 3, 1, 0), of(0, 20))), "[0 8) 1 ; [8 16) 2 ; [16 20] 1")
        self.assertEqual(steps_text(timeline(Book(told), ("nearest", dot(0, 0), 2), of(8, 10))), "[8 9] a b ; (9 10] b a")

    def test_answers_by_chance(self):
        chances = chance(171)
        for _ in range(30):
            told = some_tellings(chances, 12)
            for question in some_questions(chances):
                for moment in some_moments(chances, 3):
                    answer = answer_at(told, question, moment)
                    if question[0] == "count":
                        wanted = str(answer)
                    else:
                        wanted = " ".join(thing if isinstance(thing, str) else thing[0] + "+" + thing[1] for thing in answer) or "-"
                    self.assertEqual(self.told(answer_text, answer), wanted)

    def test_refused(self):
        for thing in [None, 0, (1, 0), (2, 4), (True, 1), [0, 1], "0", (), {}]:
            self.refused(NoFraction, fraction_text, thing)
        for thing in NO_SPELLS:
            self.refused(NoSpell, spell_text, thing)
        for thing in NO_RINGS:
            if thing is not None:
                self.refused(NoRing, ring_text, thing)
        for thing in NO_TELLINGS:
            self.assertEqual(self.refused(NoTelling, telling_text, thing).number, 0)
        for thing in NO_QUESTIONS:
            self.refused(NoQuestion, question_text, thing)
        for thing in [None, (), [], 0, "[0 1] -", ((of(0, 1), ()), (of(1, 2), ())), ((of(0, 1), ()), (of(1, 2, (False, True)), ()))]:
            self.refused(NoSteps, steps_text, thing)
        for question in QUESTIONS:
            self.assertEqual(read_question(question_text(question)), question)


if __name__ == "__main__":
    unittest.main()
