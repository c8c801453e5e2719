"""A keeper: questions over stretches, each with its steps by the book as it is, and what came to be new in them.

What is kept of a question is a row (question, stretch, steps, news, times),
times telling how often it was reckoned; a new one takes its place, so that a
copy of a keeper goes on by itself.
"""

from wherewhen.asks.questions import need_question
from wherewhen.errors import NoKept, NoMoment, NoNumber, TooMany
from wherewhen.numbers.fractions import is_whole
from wherewhen.numbers.spells import begin_edge, between, end_edge, is_inside, need_moment, need_spell, overlap
from wherewhen.numbers.steps import cut_pairs, laid_over, side_by_side
from wherewhen.papers.finder import timeline

MOST_KEPT = 20


def changes(steps, newer, stretch):
    """Pairs (spell, answer) of a stretch, where the newer steps have another answer than those ahead of them."""
    found = []
    for spell, (was, told) in side_by_side([cut_pairs(steps, stretch), newer], stretch):
        if was == told:
            continue
        if found and found[-1][1] == told and end_edge(found[-1][0]) == begin_edge(spell):
            found[-1] = (between(begin_edge(found[-1][0]), end_edge(spell)), told)
        else:
            found.append((spell, told))
    return found


def behind(kept, book, number):
    """What is kept of a question behind the book's telling with this number, its last one."""
    question, stretch, steps, news, times = kept
    touched = overlap(book.touched(number), stretch)
    if touched is None:
        return kept
    newer = timeline(book, question, touched)
    rows = [(number, spell, told) for spell, told in changes(steps, newer, touched)]
    return (question, stretch, laid_over(steps, newer), (*news, *rows), times + 1)


class Keeper:
    """Questions that are kept, numbered as they come; no number is given again."""

    def __init__(self, book):
        self._book = book
        self._coming = 0
        self._kept = {}

    def __len__(self):
        return len(self._kept)

    def copied(self):
        """A keeper like this, which goes on by itself."""
        told = Keeper(self._book)
        told._coming = self._coming
        told._kept = dict(self._kept)
        return told

    def tell(self, telling):
        """Take one more telling into the book, and reckon again where it touches what is kept."""
        number = len(self._book)
        self._book = self._book.and_told(telling)
        self._kept = {at: behind(kept, self._book, number) for at, kept in self._kept.items()}

    def keep(self, question, stretch):
        """Keep a question over a stretch: its number."""
        need_question(question)
        need_spell(stretch)
        if len(self._kept) == MOST_KEPT:
            raise TooMany("more questions than are kept")
        number = self._coming
        self._kept[number] = (question, stretch, timeline(self._book, question, stretch), (), 1)
        self._coming = number + 1
        return number

    def drop(self, number):
        """Keep a question no longer."""
        self._row(number)
        self._kept.pop(number)

    def steps_of(self, number):
        """The steps of a kept question."""
        _, _, steps, _, _ = self._row(number)
        return steps

    def holds(self, number, moment):
        """What a kept question is answered at a moment, and the whole spell about it with just that answer."""
        _, _, steps, _, _ = self._row(number)
        need_moment(moment)
        for spell, told in steps:
            if is_inside(spell, moment):
                return (told, spell)
        raise NoMoment(moment)

    def news(self, number, *, since=0):
        """The rows (number, spell, answer) of what came to be new by tellings from a number on."""
        _, _, _, news, _ = self._row(number)
        if not is_whole(since) or since < 0:
            raise NoNumber(since)
        return tuple([row for row in news if row[0] >= since])

    def reckoned(self, number):
        """How many times a kept question was reckoned."""
        _, _, _, _, times = self._row(number)
        return times

    def numbers(self):
        """The numbers of the kept questions, rising."""
        return tuple(sorted(self._kept))

    def questions(self):
        """The kept questions, rows (number, question, stretch), rising."""
        return tuple([(number, *self._kept[number][:2]) for number in sorted(self._kept)])

    def book(self):
        """The book as it is."""
        return self._book

    def _row(self, number):
        """What is kept of a question."""
        if not is_whole(number) or number not in self._kept:
            raise NoKept(number)
        return self._kept[number]
