"""Points 1, 27, 28: stores, deeds and what is told of each, all or none, refusals, logs, views."""

import unittest

from books import END, NO_QUESTIONS, NO_TELLINGS, row, some_questions, some_tellings
from parcels import FOUR, SIDES
from shapes import SQUARE
from test_cuts import BAD as NO_CUTS, NO_AT, NO_AXES, NO_HOUSES
from test_houses import THREE, houses_over
from test_lines import NO_SPELLS, of
from test_papers import some_stretch
from test_questions import NO_MOMENTS
from test_regions import dot
from things import ANYTHING, SIXTY, Calls, chance, otherwise
from wherewhen.books.book import Book
from wherewhen.errors import LackError, NoCut, NoCuts, NoDeed, NoHouse, NoKept, NoMoment, NoNumber, NoQuestion, NoSpell
from wherewhen.errors import NoTelling, TooMany, WhereError
from wherewhen.houses.houses import Houses
from wherewhen.kept.keeper import Keeper
from wherewhen.papers.finder import timeline
from wherewhen.store.store import STILL, Store

STRETCH = of(0, 20)
EVERYWHERE = (None, None, None, None)
AT_ZERO = ("touching", dot(0, 0))
LENGTHS = {"tell": 5, "border": 4, "back": 2, "all": 2, "hear": 3, "cut": 4, "uncut": 2, "keep": 3, "drop": 2}
NO_NUMBERS = [-1, True, False, None, "0", (0,), [0], {}, SIXTY]
NO_DEEDS = [None, 0, True, "tell", (), [], {}, ("tell",), ("tell", "a", 0, None), ("row", "a", 0, None, (0, 0)),
            ["back", 0], ("back",), ("back", 0, 0), ("none", 0), ("Tell", "a", 0, None, (0, 0)), (0, 1), (None, 0),
            (["back"], 0), ({}, 0), ((), 0), (("back",), 0), (True, 0), ("hear", 0), ("hear", 0, 0, 0), ("cut", 0, 0),
            ("uncut",), ("keep", AT_ZERO), ("drop",), ("border", "a", 0), ("border", "a", 0, None, (0, 0)), ("all",),
            ("all", (), ()), ("", 0), {"back": 0}, ("tell", "a", 0, None, (0, 0), 0), ("log", 0), ("in", 0)]


def tell(name, moment, ring, pace=STILL):
    return ("tell", name, moment, ring, pace)


def a_store(cuts=THREE):
    """A store that has gone on for a while."""
    store = Store(cuts=cuts)
    store.tell("a", 0, dot(-4, 0), pace=(1, 0))
    store.tell("b", 0, dot(4, 0))
    store.keep(("meets",), STRETCH)
    store.keep(AT_ZERO, of(0, 9))
    store.border("gate", 0, SQUARE)
    store.hear(0, 1)
    store.hear(1, 0)
    store.back(1)
    store.drop(store.keep(("close", 3), STRETCH))
    return store


def state(store):
    """All that is to be seen of a store but its log."""
    houses = [house for house, _, _ in store.houses()]
    kept = [[answer for answer in [called(store.holds, number, (4, 1)), called(store.news, number)]] for number in range(20)]
    return (store.view(len(store)).told(), store.houses(), [store.under_way(house) for house in houses], kept,
            [store.ask(question, STRETCH) for question in (("meets",), AT_ZERO)], len(store), store.is_busy())


def called(function, *handed):
    try:
        return function(*handed)
    except (WhereError, LackError) as refusal:
        return type(refusal).__name__


def twins(store):
    """What the store's houses and keeper are, by houses and a keeper of their own."""
    houses, keeper = Houses(THREE), Keeper(Book())
    for telling in store.view(len(store)).told():
        houses.post(telling)
        keeper.tell(telling)
    return houses, keeper


class DeedsTest(Calls, unittest.TestCase):

    def test_at_first(self):
        store = Store()
        self.assertEqual((store.houses(), store.log(), store.is_busy(), len(store)), (((0, EVERYWHERE, 0),), (), False, 0))
        self.assertEqual((store.view(0), store.under_way(0), STILL), (Book(), (), (0, 0)))
        self.assertEqual(Store(cuts=FOUR).houses(), tuple((house, SIDES[house], 0) for house in (3, 7, 12, 99)))
        for thing in NO_CUTS:
            with self.assertRaises(NoCuts):
                Store(cuts=thing)

    def test_each_by_do_and_by_its_method(self):
        one, other = Store(cuts=(0, 0, 0, 1)), Store(cuts=(0, 0, 0, 1))
        rows = [(tell("a", 3, dot(1, 1), (2, -1)), 0, lambda: other.tell("a", 3, dot(1, 1), pace=(2, -1))),
                (tell("b", 0, None), 1, lambda: other.tell("b", 0, None)),
                (("border", "gate", 2, SQUARE), 2, lambda: other.border("gate", 2, SQUARE)),
                (("back", 1), 3, lambda: other.back(1)),
                (("all", (tell("c", 0, dot(0, 0)), ("back", 4))), (4, 5), lambda: other.all_of((tell("c", 0, dot(0, 0)), ("back", 4)))),
                (("hear", 1, 0), None, lambda: other.hear(1, 0)), (("cut", 1, 1, 5), 2, lambda: other.cut(1, 1, 5)),
                (("uncut", 1), 2, lambda: other.uncut(1)),
                (("keep", AT_ZERO, STRETCH), 0, lambda: other.keep(AT_ZERO, STRETCH)),
                (("keep", ("meets",), STRETCH), 1, lambda: other.keep(("meets",), STRETCH)),
                (("drop", 0), None, lambda: other.drop(0)),
                (("keep", AT_ZERO, STRETCH), 2, lambda: other.keep(AT_ZERO, STRETCH))]
        for deed, wanted, method in rows:
            self.assertEqual((one.do(deed), method()), (wanted, wanted), deed)
            self.assertIs(type(one.log()), tuple)
            self.assertTrue(one == other)
            self.assertEqual(one.log(), other.log())
            self.assertEqual(state(one), state(other))
            self.assertEqual(one.log()[-2 if deed[0] != "all" else -6], (deed[0], "in"))
            self.assertEqual(one.log()[-1], (deed[0], "done"))
        self.assertEqual(one.view(6).told(), (row("a", 3, dot(1, 1), (2, -1)), row("b", 0, None), row("gate", 48, SQUARE), ("back", 1),
                                              row("c", 0, dot(0, 0)), ("back", 4)))

    def test_border(self):
        store = Store()
        last = END // 24
        for number, day in enumerate([0, 1, 7, last]):
            self.assertEqual(store.border("gate", day, SQUARE), number)
            self.assertEqual(store.view(number + 1).told()[-1], row("gate", 24 * day, SQUARE))
        self.assertEqual(store.do(("border", "gate", 3, None)), 4)
        ahead = state(store)
        for thing in [last + 1, -1, True, False, None, "1", (1, 1), [1], {}, SIXTY, -SIXTY]:
            for name, ring in [("gate", SQUARE), ("Gate", None), (None, 7)]:
                self.assertIs(self.refused(NoNumber, store.border, name, thing, ring).number, thing)
                self.assertIs(self.refused(NoNumber, store.do, ("border", name, thing, ring)).number, thing)
        for name, ring in [("Gate", SQUARE), ("", SQUARE), (None, SQUARE), ("gate", SQUARE[::-1]), ("gate", ()), ("gate", 0)]:
            self.assertEqual(self.refused(NoTelling, store.border, name, 1, ring).number, 5)
        self.assertEqual(state(store), ahead)

    def test_no_telling(self):
        store = a_store()
        ahead = state(store)
        for thing in NO_TELLINGS:
            if type(thing) is tuple and len(thing) == 5 and thing[0] == "row":
                self.assertEqual(self.refused(NoTelling, store.do, ("tell",) + thing[1:]).number, 4)
                self.assertEqual(self.refused(NoTelling, store.tell, *thing[1:4], pace=thing[4]).number, 4)
        for number in [1, 3, 4, SIXTY, -1, True, None, "0", (0,), [0], {}]:
            self.assertEqual(self.refused(NoTelling, store.back, number).number, 4)
        self.assertEqual(state(store), ahead)
        self.assertEqual(store.back(2), 4)

    def test_too_many(self):
        store = Store()
        store.keep(AT_ZERO, STRETCH)
        store.all_of(tuple(tell("a", number, dot(number, 0)) for number in range(99)))
        self.assertEqual(store.tell("a", 0, dot(0, 0)), 99)
        ahead = state(store)
        self.refused(TooMany, store.tell, "a", 0, dot(0, 0))
        self.refused(TooMany, store.back, 0)
        self.assertEqual(self.refused(NoTelling, store.back, 100).number, 100)
        self.assertEqual(self.refused(NoNumber, store.border, "a", -1, None).number, -1)
        self.assertEqual(state(store), ahead)
        names = Store()
        names.all_of(tuple(tell(chr(97 + number), 0, None) for number in range(12)))
        self.refused(TooMany, names.tell, "z", 0, None)
        self.assertEqual(len(names), 12)

    def test_others_refused(self):
        store = a_store()
        ahead = state(store)
        for thing in NO_HOUSES:
            if type(thing) is not int or thing not in (0, 1, 2):
                for function in (store.uncut, store.under_way):
                    self.assertIs(self.refused(NoHouse, function, thing).house, thing)
                self.assertIs(self.refused(NoHouse, store.hear, thing, None).house, thing)
                self.assertIs(self.refused(NoHouse, store.cut, thing, None, None).house, thing)
        for thing in NO_NUMBERS + [4]:
            self.assertIs(self.refused(NoNumber, store.hear, 0, thing).number, thing)
            self.assertIs(self.refused(NoNumber, store.do, ("hear", 0, thing)).number, thing)
        for thing in NO_AXES:
            self.refused(NoCut, store.cut, 1, thing, 5)
        for thing in NO_AT + [0, 10]:
            self.refused(NoCut, store.cut, 1, 0, thing)
        self.refused(NoCut, store.uncut, 0)
        for thing in NO_QUESTIONS:
            self.refused(NoQuestion, store.keep, thing, None)
        for thing in NO_SPELLS:
            self.refused(NoSpell, store.keep, AT_ZERO, thing)
        for thing in NO_NUMBERS + [2, 3]:
            self.assertIs(self.refused(NoKept, store.drop, thing).number, thing)
        self.assertEqual(state(store), ahead)
        self.assertEqual([store.keep(AT_ZERO, STRETCH) for _ in range(18)], list(range(3, 21)))
        self.refused(TooMany, store.keep, AT_ZERO, STRETCH)
        self.assertEqual(store.drop(20), None)
        self.assertEqual(store.keep(AT_ZERO, STRETCH), 21)
        deep = Store()
        self.assertEqual([deep.cut(0, 0, -number) for number in range(6)], [1, 2, 3, 4, 5, 6])
        self.refused(TooMany, deep.cut, 0, 0, -6)
        self.assertEqual(len(deep.houses()), 7)

    def test_no_deed(self):
        store = a_store()
        ahead = state(store)
        for thing in NO_DEEDS:
            self.refused(NoDeed, store.do, thing)
            self.assertEqual(store.log()[-2:], (("none", "in"), ("none", "refused")))
        for thing in ANYTHING:
            if thing != ("back", 0):
                with self.assertRaises((NoDeed, NoTelling)):
                    store.do(thing)
        self.assertEqual(state(store), ahead)

    def test_deeds_with_a_part_otherwise(self):
        deeds = [tell("a", 3, dot(1, 1), (2, -1)), ("border", "gate", 2, dot(1, 1)), ("back", 0), ("hear", 1, 0),
                 ("cut", 1, 1, 5), ("uncut", 1), ("keep", ("close", 1), of(0, 5)), ("drop", 0),
                 ("all", (tell("c", 0, None), ("back", 4)))]
        refusals = {}
        for deed in deeds:
            for thing in otherwise(deed):
                store = a_store()
                ahead = state(store)
                kind = called(store.do, thing)
                if store.log()[-1][1] == "refused":
                    refusals[kind] = True
                    self.assertEqual(state(store), ahead, thing)
                    is_deed = type(thing) is tuple and thing and type(thing[0]) is str and LENGTHS.get(thing[0]) == len(thing)
                    self.assertTrue(is_deed or kind == "NoDeed", (thing, kind))
                self.assertFalse(store.is_busy())
        self.assertEqual(sorted(refusals), ["NoCut", "NoDeed", "NoHouse", "NoKept", "NoNumber", "NoQuestion", "NoSpell", "NoTelling"])


class AllTest(Calls, unittest.TestCase):

    def test_all(self):
        store, other = a_store(), a_store()
        deeds = (tell("b", 3, dot(0, 0)), ("border", "gate", 1, None), ("back", 4), tell("c", 0, dot(1, 1)))
        self.assertEqual(store.all_of(()), ())
        self.assertEqual(store.all_of(deeds), (4, 5, 6, 7))
        self.assertEqual([other.do(deed) for deed in deeds], [4, 5, 6, 7])
        self.assertEqual(state(store), state(other))
        self.assertTrue(store == other)
        self.assertEqual(store.all_of(deeds[:1]), (8,))

    def test_one_refused_in_its_middle(self):
        good = [tell("b", 3, dot(0, 0)), ("border", "gate", 1, None), tell("z", 0, dot(0, 0), (1, 1))]
        bad = [(("back", 99), NoTelling, 6), (tell("A", 0, None), NoTelling, 6),
               (("border", "a", -1, None), NoNumber, -1), (("border", "A", 1, None), NoTelling, 6),
               (("hear", 0, 0), NoDeed, None), (("cut", 0, 0, -5), NoDeed, None), (("uncut", 1), NoDeed, None),
               (("keep", AT_ZERO, STRETCH), NoDeed, None), (("drop", 0), NoDeed, None), (("all", ()), NoDeed, None),
               (None, NoDeed, None), ([], NoDeed, None), ({}, NoDeed, None), (("back",), NoDeed, None)]
        for deed, kind, number in bad:
            store = a_store()
            store.keep(("nearest", dot(0, 0), 2), STRETCH)
            ahead, log = state(store), store.log()
            refusal = self.refused(kind, store.all_of, (good[0], good[1], deed, good[2], ("back", "no"), None))
            if number is not None:
                self.assertEqual(refusal.number, number)
            self.assertEqual(state(store), ahead, deed)
            word = deed[0] if kind is not NoDeed else "none"
            self.assertEqual(store.log(), log + (("all", "in"), ("tell", "in"), ("tell", "done"), ("border", "in"), ("border", "done"),
                                                 (word, "in"), (word, "refused"), ("all", "refused")))
            self.assertEqual(store.tell("q", 0, None), 4)
            self.assertEqual(store.keep(AT_ZERO, STRETCH), 4)

    def test_backs_of_its_own(self):
        store = Store()
        self.assertEqual(store.all_of((tell("a", 0, dot(0, 0)), ("back", 0), tell("a", 0, dot(1, 1)), ("back", 2))), (0, 1, 2, 3))
        self.assertEqual(self.refused(NoTelling, store.all_of, (tell("a", 0, None), ("back", 4), ("back", 4))).number, 6)
        self.assertEqual(len(store), 4)

    def test_too_many_in_its_middle(self):
        store = Store()
        store.keep(AT_ZERO, STRETCH)
        store.all_of(tuple(tell("a", number, dot(0, 0)) for number in range(98)))
        ahead = state(store)
        self.refused(TooMany, store.all_of, tuple(tell("b", number, dot(0, 0)) for number in range(3)))
        self.assertEqual(state(store), ahead)
        self.assertEqual(store.all_of((tell("b", 0, None), tell("b", 1, None))), (98, 99))

    def test_no_row(self):
        store = a_store()
        ahead = state(store)
        for thing in [None, 0, True, "all", [], [("back", 0)], {}, {0: ("back", 0)}]:
            self.refused(NoDeed, store.all_of, thing)
            self.assertEqual(store.log()[-2:], (("all", "in"), ("all", "refused")))
            self.refused(NoDeed, store.do, ("all", thing))
        self.assertEqual(state(store), ahead)


class AskTest(Calls, unittest.TestCase):

    def test_asked_as_houses_are(self):
        chances = chance(160)
        for _ in range(20):
            told = some_tellings(chances, 10)
            letters = {house: chances.sample(range(10), chances.randint(0, 10)) for house in (0, 1, 2)}
            store, houses = Store(cuts=THREE), houses_over(THREE, told, letters)
            for telling in told:
                store.do(("tell",) + telling[1:] if telling[0] == "row" else telling)
            for house, numbers in letters.items():
                for number in numbers:
                    store.hear(house, number)
            stretch, log = some_stretch(chances), store.log()
            for question in some_questions(chances):
                self.assertEqual(self.told(store.ask, question, stretch), houses.asked(question, stretch))
                self.assertEqual(self.told(store.ask, question, stretch, number=0), houses.asked(question, stretch, number=0))
                for number in (None, *range(11)):
                    wanted = timeline(Book(told[:number]), question, stretch)
                    self.assertEqual(self.told(store.plain, question, stretch, number=number), wanted)
            self.assertEqual([store.under_way(house) for house in (0, 1, 2)], [houses.under_way(house) for house in (0, 1, 2)])
            self.assertEqual([heard for _, _, heard in store.houses()], [houses.heard(house) for house in (0, 1, 2)])
            self.assertEqual(store.log(), log)

    def test_refused(self):
        store = a_store()
        ahead, log = state(store), store.log()
        for function in (store.ask, store.plain):
            for thing in NO_QUESTIONS:
                self.refused(NoQuestion, function, thing, None, number=-1)
            for thing in NO_SPELLS:
                self.refused(NoSpell, function, AT_ZERO, thing, number=-1)
            for thing in NO_NUMBERS + [5]:
                if thing is not None:
                    self.assertIs(self.refused(NoNumber, function, AT_ZERO, STRETCH, number=thing).number, thing)
        for thing in NO_NUMBERS + [5]:
            self.assertIs(self.refused(NoNumber, store.view, thing).number, thing)
        for thing in NO_NUMBERS + [2, 7]:
            self.assertIs(self.refused(NoKept, store.holds, thing, None).number, thing)
            self.assertIs(self.refused(NoKept, store.news, thing, since=None).number, thing)
        for thing in NO_MOMENTS + [(20, 1)]:
            self.assertIs(self.refused(NoMoment, store.holds, 1, thing).moment, thing)
        for thing in [-1, True, False, None, "0", (0,)]:
            self.assertIs(self.refused(NoNumber, store.news, 1, since=thing).number, thing)
        self.assertEqual((state(store), store.log()), (ahead, log))

    def test_kept_as_keepers_keep(self):
        store = a_store()
        keeper = Keeper(store.view(2))
        for question, stretch in [(("meets",), STRETCH), (AT_ZERO, of(0, 9))]:
            keeper.keep(question, stretch)
        for telling in store.view(4).told()[2:]:
            keeper.tell(telling)
        for number in (0, 1):
            self.assertEqual(self.told(store.news, number), keeper.news(number))
            self.assertEqual(self.told(store.news, number, since=3), keeper.news(number, since=3))
            for moment in [(0, 1), (4, 1), (9, 2), (9, 1)]:
                self.assertEqual(self.told(store.holds, number, moment), keeper.holds(number, moment))
        self.assertEqual(store.holds(1, (4, 1)), (("a", "gate"), of(4, 4)))

    def test_reckoned_no_more_often_behind_a_refusal(self):
        store = a_store()
        store.tell("a", 4, dot(9, 9))
        houses, keeper = twins(store)
        self.assertEqual((houses.book(), keeper.book()), (store.view(5), store.view(5)))
        news = [store.news(number) for number in (0, 1)]
        for _ in range(3):
            self.refused(NoDeed, store.all_of, (tell("a", 0, dot(0, 0)), tell("b", 0, dot(0, 0)), None))
        self.assertEqual([store.news(number) for number in (0, 1)], news)
        self.assertEqual([store._keeper.reckoned(number) for number in (0, 1)], [4, 4])


class LogTest(Calls, unittest.TestCase):

    def test_log(self):
        store = Store()
        store.tell("a", 0, dot(0, 0))
        store.all_of((("border", "a", 1, None), ("back", 0)))
        store.all_of(())
        self.refused(NoHouse, store.hear, 7, 0)
        self.refused(NoDeed, store.do, "no deed")
        self.refused(NoDeed, store.do, ("all", None))
        self.refused(NoDeed, store.do, ("all", (None, ("back", 1))))
        store.hear(0, 2)
        store.cut(0, 0, 5)
        store.uncut(1)
        store.keep(AT_ZERO, STRETCH)
        store.drop(0)
        self.refused(NoKept, store.drop, 0)
        words = [("tell", "in"), ("tell", "done"), ("all", "in"), ("border", "in"), ("border", "done"), ("back", "in"),
                 ("back", "done"), ("all", "done"), ("all", "in"), ("all", "done"), ("hear", "in"), ("hear", "refused"),
                 ("none", "in"), ("none", "refused"), ("all", "in"), ("all", "refused"), ("all", "in"), ("none", "in"),
                 ("none", "refused"), ("all", "refused"), ("hear", "in"), ("hear", "done"), ("cut", "in"),
                 ("cut", "done"), ("uncut", "in"), ("uncut", "done"), ("keep", "in"), ("keep", "done"), ("drop", "in"),
                 ("drop", "done"), ("drop", "in"), ("drop", "refused")]
        self.assertEqual(self.told(store.log), tuple(words))
        self.assertIs(store.is_busy(), False)

    def test_busy_within_a_deed_alone(self):
        store, found = a_store(), []

        class Seeing(tuple):
            def __len__(self):
                found.append(store.is_busy())
                return tuple.__len__(self)

        store.do(Seeing(("back", 0)))
        with self.assertRaises(NoTelling):
            store.do(Seeing(("back", 0)))
        self.assertTrue(found and all(found))
        self.assertIs(store.is_busy(), False)

    def test_views(self):
        store = a_store()
        views = [store.view(number) for number in range(5)]
        told = [view.told() for view in views]
        store.all_of((tell("a", 0, None), ("back", 0)))
        self.refused(NoTelling, store.back, 0)
        store.cut(0, 1, 0)
        self.assertEqual([view.told() for view in views], told)
        self.assertEqual([store.view(number) for number in range(5)], views)
        self.assertEqual((len(store), len(store.view(6))), (6, 6))
        self.assertIs(type(views[0]), Book)

    def test_equal(self):
        self.assertTrue(a_store() == a_store())
        for deed in [tell("a", 0, None), ("back", 0), ("hear", 0, 0), ("cut", 0, 1, 0), ("uncut", 1), ("keep", AT_ZERO, STRETCH),
                     ("drop", 0)]:
            store = a_store()
            store.do(deed)
            self.assertFalse(store == a_store(), deed)
            self.assertTrue(store != a_store())
        for deeds in [(("hear", 0, 1),), (("cut", 0, 1, 0), ("uncut", 0)), (("keep", AT_ZERO, STRETCH), ("drop", 3)),
                      (("cut", 2, 0, 50), ("hear", 3, 3), ("uncut", 2)), (("all", ()),)]:
            store = a_store()
            for deed in deeds:
                store.do(deed)
            self.assertTrue(store == a_store(), deeds)
        refused = a_store()
        self.refused(NoDeed, refused.do, None)
        self.assertTrue(refused == a_store())
        for thing in ANYTHING + [Book(), Houses()]:
            self.assertIs(Store() == thing, False)

    def test_equal_by_kept_questions(self):
        one, other = Store(), Store()
        one.keep(AT_ZERO, STRETCH)
        one.tell("a", 0, dot(0, 0))
        other.tell("a", 0, dot(0, 0))
        self.assertFalse(one == other)
        other.keep(AT_ZERO, STRETCH)
        # Kept ahead of the telling, it has news, and kept behind it none; but they are equal.
        self.assertNotEqual(one.news(0), other.news(0))
        self.assertTrue(one == other)
        for question, stretch in [(("meets",), STRETCH), (AT_ZERO, of(0, 19))]:
            like = Store()
            like.tell("a", 0, dot(0, 0))
            like.keep(question, stretch)
            self.assertFalse(one == like)
        # Of another number.
        like = Store()
        like.tell("a", 0, dot(0, 0))
        like.keep(AT_ZERO, STRETCH)
        like.drop(0)
        like.keep(AT_ZERO, STRETCH)
        self.assertFalse(one == like)
        self.assertFalse(Store(cuts=0) == Store(cuts=1))

    def test_stores_beside_stay(self):
        one, other = a_store(), a_store()
        ahead, log = state(other), other.log()
        one.tell("a", 0, None)
        one.hear(0, 0)
        one.cut(0, 1, 0)
        one.drop(0)
        self.assertEqual((state(other), other.log()), (ahead, log))


if __name__ == "__main__":
    unittest.main()
