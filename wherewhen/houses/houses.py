"""Houses: posted tellings, the letters of them that came to each house, and what they are asked together."""

from wherewhen.asks.questions import need_question
from wherewhen.books.book import Book
from wherewhen.cuts.cuts import WHOLE, cut_in, need_cuts, need_house_in, regions_in, uncut_in
from wherewhen.errors import NoHouse, NoNumber
from wherewhen.houses.asked import are_enough, book_in, by_gaps, why_left
from wherewhen.numbers.fractions import is_whole
from wherewhen.numbers.spells import need_spell
from wherewhen.papers.finder import timeline


class Houses:
    """Houses over cuts; each keeps of the posted tellings what came to it by letters."""

    def __init__(self, cuts=WHOLE):
        need_cuts(cuts)
        self._cuts = cuts
        self._book = Book()
        # For each house the numbers of the tellings whose letters came, as the keys of a dict.
        self._came = {house: {} for house in regions_in(cuts)}

    def __eq__(self, other):
        if not isinstance(other, Houses):
            return False
        return self._cuts == other._cuts and self._book == other._book and self._came == other._came

    def __len__(self):
        return len(self._came)

    def copied(self):
        """Houses like these, which go on by themselves."""
        told = Houses(self._cuts)
        told._book = self._book
        told._came = {house: dict(came) for house, came in self._came.items()}
        return told

    def post(self, telling):
        """Post a telling: its number."""
        number = len(self._book)
        self._book = self._book.and_told(telling)
        return number

    def hear(self, house, number):
        """A letter comes to a house, perhaps again."""
        need_house_in(self._came, house)
        if not is_whole(number) or not 0 <= number < len(self._book):
            raise NoNumber(number)
        self._came[house][number] = True

    def cut(self, house, axis, at):
        """Cut a house: the house that came, with the same letters."""
        self._cuts, new = cut_in(self._cuts, house, axis, at)
        self._came[new] = dict(self._came[house])
        return new

    def uncut(self, house):
        """Make two houses one: the house that went."""
        self._cuts, stays, gone = uncut_in(self._cuts, house)
        others = self._came.pop(gone)
        self._came[stays] = {number: True for number in self._came[stays] if number in others}
        return gone

    def cuts(self):
        """The cuts as they are."""
        return self._cuts

    def book(self):
        """The book of all that is posted."""
        return self._book

    def heard(self, house):
        """How many tellings came to a house, one behind the other from 0 on."""
        need_house_in(self._came, house)
        came = self._came[house]
        many = 0
        while many in came:
            many += 1
        return many

    def under_way(self, house):
        """The numbers of the tellings that did not come to a house, rising."""
        need_house_in(self._came, house)
        came = self._came[house]
        return tuple([number for number in range(len(self._book)) if number not in came])

    def book_of(self, house, *, number=None):
        """The book of a house, as of a number, or as of what it has heard."""
        need_house_in(self._came, house)
        return self._book_by([house], number)

    def gathered(self, houses, *, number=None):
        """The book of some houses together, as of a number, or as of the least that one of them has heard."""
        if not isinstance(houses, tuple) or len(houses) == 0:
            raise NoHouse(houses)
        for house in houses:
            need_house_in(self._came, house)
        return self._book_by(houses, number)

    def asked(self, question, stretch, *, number=None):
        """What houses are asked over a stretch: as of which number, which houses, why no others, and the steps."""
        need_question(question)
        need_spell(stretch)
        if question[0] == "nearest":
            return self._asked_nearest(question, stretch, number)
        regions = regions_in(self._cuts)
        why = {house: why_left(question, regions[house]) for house in regions}
        houses = tuple([house for house in why if why[house] is None])
        left = tuple([(house, why[house]) for house in why if why[house] is not None])
        number = self._number_by(houses, number)
        return (number, houses, left, timeline(self._book_by(houses, number), question, stretch))

    def _asked_nearest(self, question, stretch, number):
        """What houses are asked of what is nearest: the nearest ones, till no other can have a nearer thing."""
        gaps = by_gaps(regions_in(self._cuts), question[1])
        many, told = 0, None
        while told is None:
            many += 1
            told = self._asked_so_far(question, stretch, number, gaps[:many], gaps[many:])
        return told

    def _asked_so_far(self, question, stretch, number, taken, left):
        """What these houses are asked of what is nearest, or None where one that is left can have a nearer thing."""
        houses = tuple(sorted([house for _, house in taken]))
        number = self._number_by(houses, number)
        if left and left[0][0] == 0:
            # No thing is nearer than that, so there is no need to ask.
            return None
        book = self._book_by(houses, number)
        steps = timeline(book, question, stretch)
        if left and not are_enough(book, question, steps, left[0][0]):
            return None
        return (number, houses, tuple(sorted([(house, gap) for gap, house in left])), steps)

    def _number_by(self, houses, number):
        """The least number that one of these houses has heard, or the wished one, which all of them have heard."""
        least = min([self.heard(house) for house in houses])
        if number is None:
            return least
        if not is_whole(number) or not 0 <= number <= least:
            raise NoNumber(number)
        return number

    def _book_by(self, houses, number):
        """The book of these houses together, as of a number, or as of the least that one of them has heard."""
        number = self._number_by(houses, number)
        regions = regions_in(self._cuts)
        return book_in(self._book.told()[:number], [regions[house] for house in houses])
