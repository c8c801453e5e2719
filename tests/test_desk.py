"""Points 1, 30: desks, their rows and answers."""

import unittest

from shapes import SQUARE
from test_lines import of
from test_regions import dot
from test_store import state
from test_texts import NO_ASKED, NO_RING_TEXTS, NO_SPELL_TEXTS, NO_TELLING_TEXTS
from things import ANYTHING, SIXTY, Calls
from wherewhen.errors import NoCut, NoHouse, NoKept, NoMoment, NoNumber, NoTelling, NoText, TooMany
from wherewhen.store.store import Store
from wherewhen.words.desk import Desk

TALK = [
    ("houses", "0 heard 0"),
    ("row a 0 1,0 0,0", "0"),
    ("keep meets over [0 20]", "0"),
    ("row b 0 0,0 9,0 10,0", "1"),
    ("row c 3 0,0 -", "2"),
    ("border gate 1 5,5 6,5 6,9", "3"),
    ("border gate 2 -", "4"),
    ("back 2", "5"),
    ("ask meets over [0 20]", "0 by 0 : [0 20] -"),
    ("ask count 3 1 0 at 3", "0 by 0 : 0"),
    ("hear 0 0", "ok"),
    ("hear 0 3", "ok"),
    ("houses", "0 heard 1"),
    ("ask count 0 3 0 at 7/2", "1 by 0 : 1"),
    ("hear 0", "ok"),
    ("hear 0", "ok"),
    ("houses", "0 heard 6"),
    ("ask meets over [0 20]", "6 by 0 : [0 9) - ; [9 10] a+b ; (10 20] -"),
    ("ask meets at 19/2", "6 by 0 : a+b"),
    ("ask meets at 11", "6 by 0 : -"),
    ("ask count 3 1 0 over (8 20)", "6 by 0 : (8 16) 2 ; [16 20) 1"),
    ("ask nearest 2 0,0 over [8 11]", "6 by 0 : [8 9] a b ; (9 11] b a"),
    ("ask touching 5,5 7,5 over [23 1000000]", "6 by 0 : [23 24) - ; [24 48) gate ; [48 1000000] -"),
    ("ask within -9,-9 9,-9 9,9 -9,9 at 0", "6 by 0 : a"),
    ("ask holding 19/2,0 at 0", NoText),
    ("ask holding 9,0 at 9", "6 by 0 : a b"),
    ("ask close 2 over [0 8]", "6 by 0 : [0 7) - ; [7 8] a+b"),
    ("told 0 at 19/2", "a+b for [9 10]"),
    ("told 0 at 0", "- for [0 9)"),
    ("news 0", "1 [9 10] a+b"),
    ("keep nearest 1 0,0 over (2 30)", "1"),
    ("news 1", "-"),
    ("row c 12 0,0 10,0", "6"),
    ("row b 10 0,0 10,0", "7"),
    ("told 1 at 9", "a for (2 9]"),
    ("told 1 at 10", "a for [10 10]"),
    ("news 1", "7 [10 10] a"),
    ("drop 1", "ok"),
    ("keep count 0 0 0 over [0 1]", "2"),
    ("cut 0 x 5", "1"),
    ("cut 1 y -7", "2"),
    ("houses", "0 heard 6 ; 1 heard 6 ; 2 heard 6"),
    ("hear 2", "ok"),
    ("houses", "0 heard 6 ; 1 heard 6 ; 2 heard 8"),
    ("ask touching 4,0 5,0 at 4", "6 by 0 2 : a"),
    ("ask touching 7,0 8,0 over [7 8]", "8 by 2 : [7 8] a"),
    ("ask touching 6,-7 6,-8 over [6 6]", "6 by 1 2 : [6 6] -"),
    ("uncut 1", "2"),
    ("houses", "0 heard 6 ; 1 heard 6"),
    ("uncut 0", "1"),
]
NO_ROWS = ["", " ", "row", "rows", "house", "houses ", " houses", "houses 0", "Houses", "keep", "keep meets",
           "keep meets over", "keep meets over ", "keep over [0 1]", "keep meets [0 1]", "keep meets over [0 1] ",
           "keep  meets over [0 1]", "keep meets  over [0 1]", "keep meets over  [0 1]", "keep meets over 5",
           "keep meets at 5", "keep meets over [0 1] over [0 1]", "keep keep meets over [0 1]", "cut", "cut 0",
           "cut 0 x", "cut 0 z 5", "cut 0 0 5", "cut 0 x 5 6", "cut 0 x 1/2", "cut x 0 5", "cut 0  x 5", "cut 0 x 5 ",
           "cut 0 x 05", "cut 0 x +5", "cut 0 X 5", "cut -0 x 5", "cut 0 x " + "9" * 61, "uncut", "uncut ", "uncut x",
           "uncut 0 1", "uncut 00", "drop", "drop ", "drop 0 1", "drop x", "drop 1/2", "hear", "hear ", "hear x",
           "hear 0 ", "hear  0", "hear 0 1 2", "hear 0 x", "hear 01", "ask", "ask ", "ask meets", "ask meets over",
           "ask meets over 5", "ask meets at", "ask meets at ", "ask meets at [0 1]", "ask meets at -1",
           "ask meets at 1000001", "ask meets at 2/2", "ask meets at 1 at 2", "ask  meets at 1", "ask meets at  1",
           "ask meets at 1 ", "ask meets over [0 1] at 1", "ask meets at 1 over [0 1]", "ask ask meets at 1",
           "ask at 1", "ask over [0 1]", "told", "told 0", "told 0 at", "told 0 at ", "told at 1", "told 0 at -1",
           "told 0 at 1000001", "told 0 at [0 1]", "told x at 1", "told 0  at 1", "told 0 at 1 ", "told 0 over [0 1]",
           "told told 0 at 1", "news", "news ", "news x", "news 0 1", "news 00", "border", "border gate",
           "border gate 1", "border gate 1 ", "border gate x 0,0", "border gate 1/2 0,0", "border Gate 1 0,0",
           "border  1 0,0", "border gate 01 0,0", "border gate 1  0,0", "border gate 1 0,4 4,4 4,0 0,0",
           "border gate 1 0,0 0,0", "border gate 1 0,0 ", "border ninelette 1 -", "border gate 1 0,0 at 5", "all",
           "all 0", "tell a 0 0,0 0,0", "do", "log", "view 0", "plain meets at 1", "hear\n0", "houses\n", "\nhouses",
           "row a 0 0,0 0,0;houses", "h\u00f6uses", "x" * 4001, "houses" + " " * 4000,
           "hear 0" * 1000] + NO_TELLING_TEXTS[:-13]


class DeskTest(Calls, unittest.TestCase):

    def talked(self, many):
        desk = Desk()
        for said, wanted in TALK[:many]:
            if wanted is NoText:
                self.refused(NoText, desk.say, said)
            else:
                self.assertEqual(desk.say(said), wanted, said)
        return desk

    def test_word_for_word(self):
        desk = self.talked(len(TALK))
        self.assertEqual(len(desk), len(TALK))
        self.assertEqual(desk.last(), ())

    def test_the_store(self):
        desk, store = Desk(), Store()
        self.assertIs(type(desk.store()), Store)
        self.assertEqual(desk.store(), store)
        deeds = [("row a 0 1,-2 0,0", ("tell", "a", 0, dot(0, 0), (1, -2))),
                 ("row b 7 0,0 -", ("tell", "b", 7, None, (0, 0))), ("back 0", ("back", 0)),
                 ("border gate 3 0,0 4,0 4,4 0,4", ("border", "gate", 3, SQUARE)),
                 ("border gate 0 -", ("border", "gate", 0, None)),
                 ("keep meets over (0 1/2)", ("keep", ("meets",), ((0, 1), False, (1, 2), False))),
                 ("keep count 2 -1 3 over [0 9]", ("keep", ("count", 2, -1, 3), of(0, 9))),
                 ("cut 0 y -3", ("cut", 0, 1, -3)), ("cut 1 x 4", ("cut", 1, 0, 4)), ("uncut 1", ("uncut", 1)),
                 ("hear 1 0", ("hear", 1, 0)), ("drop 0", ("drop", 0))]
        for said, deed in deeds:
            told = store.do(deed)
            self.assertEqual(desk.say(said), "ok" if told is None else str(told))
            self.assertTrue(desk.store() == store, said)
            self.assertEqual(desk.store().log(), store.log())
            self.assertEqual(state(desk.store()), state(store))
        # All letters that are under way to one house, each by its own deed, rising.
        self.assertEqual(desk.say("hear 1"), "ok")
        for number in (1, 2, 3, 4):
            store.hear(1, number)
        self.assertTrue(desk.store() == store)
        self.assertEqual(desk.store().log(), store.log())
        log = desk.store().log()
        for said in ["hear 1", "houses", "ask meets at 0", "ask meets over [0 1]", "told 1 at 5", "news 1"]:
            desk.say(said)
        self.assertEqual(desk.store().log(), log)

    def test_no_row(self):
        desk = self.talked(20)
        ahead, log = state(desk.store()), desk.store().log()
        for said in NO_ROWS + ANYTHING + [b"houses", ["houses"], ("houses",), {"houses": 0}, SIXTY]:
            self.refused(NoText, desk.say, said)
        for none in NO_ASKED:
            if " over " not in none:
                for said in ["keep {} over [0 1]", "ask {} over [0 1]", "ask {} at 1"]:
                    self.refused(NoText, desk.say, said.format(none))
        for none in NO_SPELL_TEXTS:
            self.refused(NoText, desk.say, "keep meets over " + none)
            self.refused(NoText, desk.say, "ask meets over " + none)
        for none in NO_RING_TEXTS:
            self.refused(NoText, desk.say, "border gate 1 " + none)
            self.refused(NoText, desk.say, "row a 0 0,0 " + none)
        self.assertEqual((state(desk.store()), desk.store().log()), (ahead, log))

    def test_ahead_of_what_the_store_refuses(self):
        desk = self.talked(20)
        for said in ["hear 7 x", "cut 7 x 1/2", "cut 7 z 0", "told 7 at -1", "border gate -1 0", "border Gate -1 0,0", "keep meet over [0 1]"]:
            self.refused(NoText, desk.say, said)

    def test_as_the_store_refuses(self):
        desk = self.talked(33)
        rows = [("back 2", NoTelling, 9), ("back 5", NoTelling, 9), ("back 77", NoTelling, 9),
                ("back " + "9" * 60, NoTelling, 9), ("border gate -1 0,0", NoNumber, -1),
                ("border gate 41667 0,0", NoNumber, 41667), ("border gate " + "9" * 60 + " -", NoNumber, SIXTY),
                ("hear 7", NoHouse, 7), ("hear -1", NoHouse, -1), ("hear 7 99", NoHouse, 7), ("hear 0 9", NoNumber, 9),
                ("hear 0 -1", NoNumber, -1), ("cut 1 x 0", NoHouse, 1), ("cut 0 x 1000000001", NoCut, None),
                ("cut 0 y -" + "9" * 60, NoCut, None), ("uncut 0", NoCut, None), ("uncut " + "9" * 60, NoHouse, SIXTY),
                ("drop 7", NoKept, 7), ("drop -1", NoKept, -1), ("told 7 at 0", NoKept, 7),
                ("told 0 at 21", NoMoment, (21, 1)), ("told 1 at 2", NoMoment, (2, 1)), ("news 7", NoKept, 7),
                ("news -1", NoKept, -1)]
        desk.say("row q 0 0,0 -")
        desk.say("back 7")
        ahead = state(desk.store())
        for said, kind, kept in rows:
            refusal = self.refused(kind, desk.say, said)
            if kept is not None:
                self.assertIn(kept, vars(refusal).values())
            self.assertEqual(state(desk.store()), ahead)
        self.assertEqual(desk.say("border gate 41666 0,0"), "9")

    def test_too_many(self):
        desk = Desk()
        for number in range(20):
            self.assertEqual(desk.say("keep meets over [0 1]"), str(number))
        self.refused(TooMany, desk.say, "keep meets over [0 1]")
        self.refused(NoText, desk.say, "keep meets over [1 0]")
        for number in range(100):
            self.assertEqual(desk.say("row a 0 0,0 0,0"), str(number))
        self.refused(TooMany, desk.say, "row a 0 0,0 0,0")
        self.assertEqual(self.refused(NoTelling, desk.say, "back 100").number, 100)
        self.assertEqual(desk.say("cut 0 x 0"), "1")
        for number in range(5):
            desk.say("cut 0 x " + str(-1 - number))
        self.refused(TooMany, desk.say, "cut 0 y 0")
        self.assertEqual(desk.say("houses"), " ; ".join(str(house) + " heard 0" for house in range(7)))

    def test_news(self):
        desk = Desk()
        for said in ["row a 0 0,0 0,0", "keep touching 0,0 over [0 9)", "row b 2 0,0 0,0", "row b 4 0,0 -", "row a 6 0,0 1,1", "back 1"]:
            desk.say(said)
        self.assertEqual(desk.say("news 0"), "1 [2 9) a b ; 2 [4 9) a ; 3 [6 9) - ; 4 [2 4) a")
        self.assertEqual(desk.say("told 0 at 13/2"), "- for [6 9)")
        self.assertEqual(desk.say("told 0 at 0"), "a for [0 6)")

    def test_many(self):
        desk = Desk()
        rows = ("row a 0 0,0 0,0", "hear 0", "houses", "ask touching 0,0 at 5")
        self.assertEqual(desk.many(rows), ("0", "ok", "0 heard 1", "1 by 0 : a"))
        self.assertEqual(desk.last(), ("0", "ok", "0 heard 1", "1 by 0 : a"))
        self.assertEqual(len(desk), 4)
        self.assertEqual(desk.say("houses"), "0 heard 1")
        self.assertEqual(desk.last(), ("0", "ok", "0 heard 1", "1 by 0 : a"))
        self.assertEqual(self.refused(NoTelling, desk.many, ("row b 0 0,0 -", "back 7", "row c 0 0,0 -", "no row")).number, 2)
        self.assertEqual((desk.last(), len(desk), len(desk.store())), (("1",), 7, 2))
        self.refused(NoText, desk.many, ("houses", "hear 0", None, "houses"))
        self.assertEqual((desk.last(), len(desk)), (("0 heard 1", "ok"), 10))
        self.refused(NoText, desk.many, ("no row", "houses"))
        self.assertEqual((desk.last(), len(desk)), ((), 11))
        self.assertEqual(desk.many(("houses",)), ("0 heard 2",))
        self.assertEqual(desk.many(()), ())
        self.assertEqual((desk.last(), len(desk)), ((), 12))

    def test_no_tuple_of_rows(self):
        desk = Desk()
        desk.many(("row a 0 0,0 0,0", "houses"))
        for thing in ANYTHING + ["houses", ["houses"], {"houses": 0}]:
            if not isinstance(thing, tuple):
                self.refused(NoText, desk.many, thing)
        self.assertEqual((desk.last(), len(desk), len(desk.store())), (("0", "0 heard 0"), 2, 1))

    def test_refused_rows_count(self):
        desk = Desk()
        for said in [None, "", "no row", "hear 7", "back 0", "houses", ("houses",)]:
            try:
                desk.say(said)
            except (NoText, NoHouse, NoTelling):
                pass
        self.assertEqual(len(desk), 7)
        self.assertEqual(desk.store().log(), (("back", "in"), ("back", "refused")))

    def test_desks_beside_stay(self):
        one, other = Desk(), Desk()
        one.many(("row a 0 0,0 0,0", "hear 0"))
        self.assertEqual((len(other), other.last(), other.store(), other.say("houses")), (0, (), Store(), "0 heard 0"))


if __name__ == "__main__":
    unittest.main()
