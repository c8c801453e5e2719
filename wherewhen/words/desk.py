"""A desk: a store that is told, and asked, by rows of text."""

from wherewhen.errors import NoText
from wherewhen.store.store import Store
from wherewhen.words.readers import request_in
from wherewhen.words.texts import WITHOUT, answer_text, number_text, spell_text, steps_text


class Desk:
    """A store of one house, and what was said to it."""

    def __init__(self):
        self._store = Store()
        self._said = 0
        self._last = ()

    def __len__(self):
        return len(range(self._said))

    def say(self, row):
        """Say a row: the answer."""
        self._said += 1
        word, *about = request_in(row)
        if word == "do":
            return self._done(about[0])
        if word == "hear":
            return self._all_heard(about[0])
        if word == "over":
            return self._asked(about[0], about[1], False)
        if word == "at":
            return self._asked(about[0], (about[1], True, about[1], True), True)
        if word == "told":
            told, spell = self._store.holds(about[0], about[1])
            return answer_text(told) + " for " + spell_text(spell)
        return self._news(about[0]) if word == "news" else self._house_rows()

    def many(self, rows):
        """Say rows, one behind another, up to the first that is refused: their answers."""
        if not isinstance(rows, tuple):
            raise NoText("no tuple of rows")
        self._last = ()
        for row in rows:
            self._last = (*self._last, self.say(row))
        return self._last

    def last(self):
        """The answers of the last many, up to the refused one."""
        return self._last

    def store(self):
        """The desk's own store."""
        return self._store

    def _done(self, deed):
        """The answer to a deed."""
        told = self._store.do(deed)
        return "ok" if told is None else number_text(told)

    def _all_heard(self, house):
        """The answer once all letters under way to a house came."""
        for number in self._store.under_way(house):
            self._store.hear(house, number)
        return "ok"

    def _asked(self, question, stretch, is_moment):
        """The answer to a question over a stretch, which is perhaps one moment."""
        number, houses, _, steps = self._store.ask(question, stretch)
        told = answer_text(steps[0][1]) if is_moment else steps_text(steps)
        return number_text(number) + " by " + " ".join([number_text(house) for house in houses]) + " : " + told

    def _news(self, number):
        """The news of a kept question."""
        rows = [number_text(telling) + " " + spell_text(spell) + " " + answer_text(told)
                for telling, spell, told in self._store.news(number)]
        return " ; ".join(rows) if rows else WITHOUT

    def _house_rows(self):
        """All houses, with how many tellings each has heard."""
        rows = [number_text(house) + " heard " + number_text(heard) for house, _, heard in self._store.houses()]
        return " ; ".join(rows)
