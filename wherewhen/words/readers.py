"""Rows of a desk: what each asks for, read from its text alone."""

from wherewhen.books.book import is_name
from wherewhen.errors import NoText
from wherewhen.numbers.spells import is_moment
from wherewhen.words.texts import fraction_in, need_text, number_in, question_in, ring_in, spell_in, telling_in

AXES = {"x": 0, "y": 1}


def words_in(text, many):
    """The words of a text, which are so many."""
    words = text.split(" ")
    if len(words) != many:
        raise NoText("more words, or fewer, than the row has")
    return words


def moment_in(text):
    """The moment that is written so."""
    found = fraction_in(text)
    if not is_moment(found):
        raise NoText("no moment")
    return found


def tell_deed(text):
    """The deed of a telling."""
    telling = telling_in(text)
    return ("do", telling if telling[0] == "back" else ("tell", *telling[1:]))


def border_deed(text):
    """The deed of a border."""
    words = text.split(" ", 3)
    if len(words) != 4 or not is_name(words[1]):
        raise NoText("no border of a name")
    return ("do", ("border", words[1], number_in(words[2]), ring_in(words[3])))


def keep_deed(text):
    """The deed of a question to be kept."""
    question, _, spell = text.removeprefix("keep ").partition(" over ")
    return ("do", ("keep", question_in(question), spell_in(spell)))


def cut_deed(text):
    """The deed of a house to be cut."""
    word, house, axis, at = words_in(text, 4)
    if axis not in AXES:
        raise NoText("an axis is x or y")
    return ("do", (word, number_in(house), AXES[axis], number_in(at)))


def numbered_deed(text):
    """The deed of a word and a number."""
    word, number = words_in(text, 2)
    return ("do", (word, number_in(number)))


def hear_request(text):
    """The deed of a letter that comes, or what asks for all letters of a house."""
    numbers = [number_in(word) for word in text.split(" ")[1:]]
    if len(numbers) == 1:
        return ("hear", numbers[0])
    if len(numbers) != 2:
        raise NoText("no house, and perhaps one number")
    return ("do", ("hear", numbers[0], numbers[1]))


def ask_request(text):
    """A question to be asked over a spell, or at a moment."""
    rest = text.removeprefix("ask ")
    if " over " in rest:
        question, _, spell = rest.partition(" over ")
        return ("over", question_in(question), spell_in(spell))
    question, _, moment = rest.partition(" at ")
    return ("at", question_in(question), moment_in(moment))


def told_request(text):
    """A kept question to be told at a moment."""
    number, _, moment = text.removeprefix("told ").partition(" at ")
    return ("told", number_in(number), moment_in(moment))


def news_request(text):
    """The news of a kept question."""
    word, number = words_in(text, 2)
    return (word, number_in(number))


def houses_request(text):
    """All houses."""
    words_in(text, 1)
    return ("houses",)


READERS = {
    "row": tell_deed, "back": tell_deed, "border": border_deed,
    "keep": keep_deed, "drop": numbered_deed, "cut": cut_deed, "uncut": numbered_deed, "hear": hear_request,
    "ask": ask_request, "told": told_request, "news": news_request, "houses": houses_request,
}


def request_in(thing):
    """What a row asks for: ("do", deed), or another word and what it is about."""
    need_text(thing)
    word = thing.split(" ")[0]
    if word not in READERS:
        raise NoText("no row of a desk")
    reader = READERS[word]
    return reader(thing)
