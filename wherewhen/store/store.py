"""A store: houses and a keeper of the same tellings, and deeds, each done whole or refused."""

from wherewhen.asks.questions import need_question
from wherewhen.books.book import DAY
from wherewhen.cuts.cuts import WHOLE, regions_in
from wherewhen.errors import LackError, NoDeed, NoNumber, WhereError
from wherewhen.houses.houses import Houses
from wherewhen.kept.keeper import Keeper
from wherewhen.numbers.fractions import is_whole
from wherewhen.numbers.spells import END, need_spell
from wherewhen.papers.finder import timeline

STILL = (0, 0)
NONE = "none"
TELLINGS = ("tell", "border", "back")
DEEDS = ("tell", "border", "back", "all", "hear", "cut", "uncut", "keep", "drop")
LENGTHS = {"tell": 5, "border": 4, "back": 2, "all": 2, "hear": 3, "cut": 4, "uncut": 2, "keep": 3, "drop": 2}


def word_of(thing, words):
    """The word of anything that is a deed with one of these words, by its word and length, else NONE."""
    if not isinstance(thing, tuple) or len(thing) == 0:
        return NONE
    word = thing[0]
    return word if word in words and len(thing) == LENGTHS[word] else NONE


def telling_of(deed):
    """The telling of a deed that is one, perhaps no telling."""
    if deed[0] == "back":
        return deed
    if deed[0] == "tell":
        return ("row", *deed[1:])
    _, name, day, ring = deed
    if not is_whole(day) or not 0 <= day * DAY <= END:
        raise NoNumber(day)
    return ("row", name, day * DAY, ring, STILL)


class Store:
    """Houses and a keeper of the same tellings; each deed is done whole or refused, and is in the log."""

    def __init__(self, *, cuts=WHOLE):
        self._houses = Houses(cuts)
        self._keeper = Keeper(self._houses.book())
        self._log = []
        self._busy = False

    def __eq__(self, other):
        if not isinstance(other, Store):
            return False
        return self._houses == other._houses and self._keeper.questions() == other._keeper.questions()

    def __len__(self):
        return len(self._houses.book())

    def do(self, deed):
        """Do a deed: what it tells."""
        self._busy = True
        try:
            return self._step(deed, DEEDS)
        finally:
            self._busy = False

    def tell(self, name, moment, ring, *, pace=STILL):
        """Tell a row: the telling's number."""
        return self.do(("tell", name, moment, ring, pace))

    def border(self, name, day, ring):
        """Tell a border by its day: the telling's number."""
        return self.do(("border", name, day, ring))

    def back(self, number):
        """Take a row back: the telling's number."""
        return self.do(("back", number))

    def all_of(self, deeds):
        """Do all of a row of tellings, or none of them: their numbers."""
        return self.do(("all", deeds))

    def hear(self, house, number):
        """A letter comes to a house."""
        return self.do(("hear", house, number))

    def cut(self, house, axis, at):
        """Cut a house: the house that came."""
        return self.do(("cut", house, axis, at))

    def uncut(self, house):
        """Make two houses one: the house that went."""
        return self.do(("uncut", house))

    def keep(self, question, stretch):
        """Keep a question over a stretch: its number."""
        return self.do(("keep", question, stretch))

    def drop(self, number):
        """Keep a question no longer."""
        return self.do(("drop", number))

    def ask(self, question, stretch, *, number=None):
        """What houses are asked over a stretch, as of which number, why no others, and the steps."""
        return self._houses.asked(question, stretch, number=number)

    def plain(self, question, stretch, *, number=None):
        """The steps of a question by the book as of a number, or of all tellings."""
        need_question(question)
        need_spell(stretch)
        book = self._houses.book()
        return timeline(book if number is None else book.as_of(number), question, stretch)

    def view(self, number):
        """The book as of a number."""
        return self._houses.book().as_of(number)

    def holds(self, number, moment):
        """What a kept question is answered at a moment, and the whole spell about it with just that answer."""
        return self._keeper.holds(number, moment)

    def news(self, number, *, since=0):
        """The news of a kept question by tellings from a number on."""
        return self._keeper.news(number, since=since)

    def houses(self):
        """The houses: rows (house, region, heard), rising."""
        regions = regions_in(self._houses.cuts())
        return tuple([(house, region, self._houses.heard(house)) for house, region in regions.items()])

    def under_way(self, house):
        """The numbers of the tellings that did not come to a house, rising."""
        return self._houses.under_way(house)

    def log(self):
        """What was done, and what was refused: rows (word, "in"), (word, "done"), (word, "refused"), in order."""
        return tuple(self._log)

    def is_busy(self):
        """Tell whether a deed is being done."""
        return self._busy

    def _step(self, deed, words):
        """Do a deed with one of these words, with its rows of the log."""
        word = word_of(deed, words)
        self._log.append((word, "in"))
        try:
            told = self._told_by(word, deed)
        except (WhereError, LackError):
            self._log.append((word, "refused"))
            raise
        self._log.append((word, "done"))
        return told

    def _told_by(self, word, deed):
        """What a deed with this word tells, once it is done."""
        if word == NONE:
            raise NoDeed("no deed by its word and length")
        if word in TELLINGS:
            return self._post(telling_of(deed))
        if word == "all":
            return self._all(deed[1])
        if word == "hear":
            return self._houses.hear(deed[1], deed[2])
        if word == "cut":
            return self._houses.cut(deed[1], deed[2], deed[3])
        if word == "uncut":
            return self._houses.uncut(deed[1])
        if word == "keep":
            return self._keeper.keep(deed[1], deed[2])
        return self._keeper.drop(deed[1])

    def _post(self, telling):
        """Post a telling, and hand it to the keeper: its number."""
        number = self._houses.post(telling)
        self._keeper.tell(telling)
        return number

    def _all(self, deeds):
        """Do all of a row of tellings, or none of them: their numbers."""
        if not isinstance(deeds, tuple):
            raise NoDeed("no row of deeds")
        houses, keeper = self._houses, self._keeper
        self._houses, self._keeper = houses.copied(), keeper.copied()
        try:
            return tuple([self._step(deed, TELLINGS) for deed in deeds])
        except (WhereError, LackError):
            self._houses, self._keeper = houses, keeper
            raise
