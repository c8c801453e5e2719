"""Point 2: whatever is told, in whatever order, over whatever houses, each question is answered as by a plain walk."""

import unittest
from fractions import Fraction

from books import LETTERS, answer_at, some_questions
from shapes import as_number, as_pair, some_ring
from test_papers import some_stretch
from things import Calls, chance
from wherewhen.books.book import Book
from wherewhen.errors import LackError, WhereError
from wherewhen.numbers.spells import has
from wherewhen.numbers.steps import answer_in, stretch_of
from wherewhen.papers.finder import paper_of
from wherewhen.papers.judge import shows, steps_in
from wherewhen.store.store import Store

MOMENTS = [Fraction(k, 4) for k in range(57)] + [Fraction(17, 3), Fraction(10 ** 6)]


def some_telling(chances, told):
    """A telling's deed, perhaps one that is refused."""
    word = chances.random()
    ring = None if chances.random() < 0.2 else some_ring(chances, 7)
    name = chances.choice(LETTERS[:5])
    if word < 0.2:
        return ("back", chances.randint(0, told))
    if word < 0.3:
        return ("border", name, chances.choice([0, 0, 0, 1, -1]), ring)
    pace = (0, 0) if ring is None else (chances.randint(-2, 2), chances.randint(-2, 2))
    return ("tell", name, chances.randint(0, 12), ring, pace)


def some_deed(chances, store):
    """A deed by chance, perhaps one that is refused."""
    word, told = chances.random(), len(store)
    houses = [house for house, _, _ in store.houses()] + [chances.randint(0, 20)]
    if word < 0.35:
        return some_telling(chances, told)
    if word < 0.45:
        return ("all", tuple(some_telling(chances, told + number) for number in range(chances.randint(0, 3))))
    if word < 0.75:
        house = chances.choice(houses)
        under_way = store.under_way(house) if house in houses[:-1] else ()
        return ("hear", house, under_way[0] if under_way and chances.random() < 0.7 else chances.randint(0, told))
    if word < 0.85:
        return ("cut", chances.choice(houses), chances.randint(0, 1), chances.randint(-6, 6))
    if word < 0.92:
        return ("uncut", chances.choice(houses))
    if word < 0.98:
        return ("keep", chances.choice(some_questions(chances)), some_stretch(chances))
    return ("drop", chances.randint(0, 3))


class WholeTest(Calls, unittest.TestCase):

    def history(self, chances, many):
        """A store with so many deeds behind it; its tellings, as told one by one, and its kept questions."""
        store, kept, told = Store(), {}, []
        for _ in range(many):
            deed = some_deed(chances, store)
            ahead = (store.view(len(store)), store.houses())
            try:
                found = store.do(deed)
            except (WhereError, LackError):
                self.assertEqual((store.view(len(store)), store.houses()), ahead)
                continue
            if deed[0] == "keep":
                kept[found] = deed[1:]
            if deed[0] == "drop":
                del kept[deed[1]]
            for one in deed[1] if deed[0] == "all" else [deed]:
                if one[0] == "back":
                    told.append(one)
                if one[0] == "tell":
                    told.append(("row",) + one[1:])
                if one[0] == "border":
                    told.append(("row", one[1], 24 * one[2], one[3], (0, 0)))
        return store, kept, told

    def moments(self, chances, steps):
        """Moments drawn, and the ends of all steps, and beside them."""
        found = chances.sample(MOMENTS, 12)
        for spell, _ in steps:
            for end in (as_number(spell[0]), as_number(spell[2])):
                found += [end, end - Fraction(1, 10 ** 9), end + Fraction(1, 10 ** 9)]
        stretch = stretch_of(steps)
        return [moment for moment in found if 0 <= moment <= 10 ** 6 and has(stretch, as_pair(moment))]

    def look_at(self, chances, told, question, steps):
        for moment in self.moments(chances, steps):
            self.assertEqual(answer_in(steps, as_pair(moment)), answer_at(told, question, moment), (told, question, moment))

    def test_histories(self):
        chances = chance(200)
        seen = {}
        for _ in range(60):
            store, kept, told = self.history(chances, chances.randint(5, 60))
            self.assertEqual(store.view(len(store)).told(), tuple(told))
            stretch = some_stretch(chances)
            for question in some_questions(chances):
                number, some, left, steps = store.ask(question, stretch)
                self.assertEqual(stretch_of(steps), stretch)
                self.look_at(chances, told[:number], question, steps)
                paper = paper_of(store.view(number), question, stretch)
                self.assertTrue(shows(Book(told[:number]), question, stretch, paper))
                self.assertEqual(steps_in(paper), steps)
                wished = chances.randint(0, number)
                if question[0] != "nearest":
                    as_of, _, _, steps = store.ask(question, stretch, number=wished)
                    self.assertEqual(as_of, wished)
                    self.look_at(chances, told[:wished], question, steps)
                self.look_at(chances, told, question, store.plain(question, stretch))
                seen[number] = seen.get(number, 0) + 1
        self.assertGreater(len(seen), 8)

    def test_what_is_kept(self):
        chances = chance(201)
        for _ in range(60):
            store, kept, told = self.history(chances, chances.randint(20, 70))
            for number, (question, stretch) in kept.items():
                for moment in MOMENTS:
                    if has(stretch, as_pair(moment)):
                        self.look_at_spell(store, number, question, stretch, told, moment)

    def look_at_spell(self, store, number, question, stretch, told, moment):
        """Right till the moment it tells, and then something else is, or the stretch ends."""
        answer, (begin, with_begin, end, with_end) = store.holds(number, as_pair(moment))
        begin, end, little = as_number(begin), as_number(end), Fraction(1, 10 ** 12)
        inside = [moment, (begin + end) / 2] + [begin] * with_begin + [end] * with_end
        for at in inside:
            self.assertEqual(answer, answer_at(told, question, at))
        for at in (begin - little if with_begin else begin, end + little if with_end else end):
            if 0 <= at <= 10 ** 6 and has(stretch, as_pair(at)):
                self.assertNotEqual(answer, answer_at(told, question, at))

    def test_any_order_of_letters(self):
        chances = chance(202)
        for _ in range(30):
            store, _, told = self.history(chances, 40)
            letters = [(house, number) for house, _, _ in store.houses() for number in range(len(told))]
            chances.shuffle(letters)
            stretch, questions = some_stretch(chances), some_questions(chances)
            for at, (house, number) in enumerate(letters):
                store.hear(house, number)
                question = questions[at % len(questions)]
                as_of, _, _, steps = store.ask(question, stretch)
                self.look_at(chances, told[:as_of], question, steps)
            for question in questions:
                self.assertEqual(store.ask(question, stretch)[0], len(told))
                self.assertEqual(store.ask(question, stretch)[3], store.plain(question, stretch))
            self.assertEqual([store.under_way(house) for house, _, _ in store.houses()], [()] * len(store.houses()))


if __name__ == "__main__":
    unittest.main()
