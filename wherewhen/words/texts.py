"""Texts: how fractions, spells, rings, tellings, questions, answers and steps are written, and read back.

The functions `.._in` are for the package itself: each reads a part of a text
that was looked at, or refuses it. Nothing is read but what is written just
so, so what comes of the figures is looked at once more as a whole.
"""

from wherewhen.asks.questions import is_question, need_question
from wherewhen.books.book import is_telling
from wherewhen.errors import NoTelling, NoText
from wherewhen.numbers.fractions import is_fraction, is_whole, need_fraction
from wherewhen.numbers.spells import is_spell, need_spell
from wherewhen.numbers.steps import need_steps
from wherewhen.shapes.rings import is_ring, need_ring

MOST_SIGNS = 4000
MOST_FIGURES = 60
FIGURES = "0123456789"
# The least number of more figures than are written at once: Python does not write very long ones.
MANY = 10 ** 60
WITHOUT = "-"


def number_text(number):
    """A whole number, by figures."""
    rest = abs(number)
    parts = []
    while rest >= MANY:
        rest, last = divmod(rest, MANY)
        parts.append(str(last).zfill(MOST_FIGURES))
    parts.append(str(rest))
    return ("-" if number < 0 else "") + "".join(parts[::-1])


def pair_text(pair):
    """Two whole numbers with a comma between, as corners and paces are written."""
    return number_text(pair[0]) + "," + number_text(pair[1])


def fraction_text(one):
    """A fraction as a text."""
    need_fraction(one)
    over, under = one
    return number_text(over) if under == 1 else number_text(over) + "/" + number_text(under)


def spell_text(spell):
    """A spell as a text."""
    need_spell(spell)
    begin, with_begin, end, with_end = spell
    opening, closing = "[" if with_begin else "(", "]" if with_end else ")"
    return opening + fraction_text(begin) + " " + fraction_text(end) + closing


def ring_text(ring):
    """A ring, or None, as a text."""
    if ring is None:
        return WITHOUT
    need_ring(ring)
    return " ".join([pair_text(corner) for corner in ring])


def telling_text(telling):
    """A telling as a text."""
    if not is_telling(telling):
        raise NoTelling(0)
    if telling[0] == "back":
        return "back " + number_text(telling[1])
    _, name, moment, ring, pace = telling
    return " ".join(["row", name, number_text(moment), pair_text(pace), ring_text(ring)])


def question_text(question):
    """A question as a text."""
    need_question(question)
    word, *rest = question
    if word == "nearest":
        return " ".join([word, number_text(rest[1]), ring_text(rest[0])])
    if word == "touching" or word == "within" or word == "holding":
        return word + " " + ring_text(rest[0])
    return " ".join([word, *[number_text(number) for number in rest]])


def thing_text(thing):
    """A name, or a pair of names, as a text."""
    return thing if isinstance(thing, str) else "+".join(thing)


def answer_text(answer):
    """An answer to a question as a text."""
    if is_whole(answer):
        return number_text(answer)
    return " ".join([thing_text(thing) for thing in answer]) if answer else WITHOUT


def steps_text(steps):
    """Steps of answers to a question as a text."""
    need_steps(steps)
    return " ; ".join([spell_text(spell) + " " + answer_text(answer) for spell, answer in steps])


def need_text(thing):
    """Refuse what is no text that may be handed in."""
    if not isinstance(thing, str) or len(thing) > MOST_SIGNS:
        raise NoText("no text of so few signs")


def number_in(text):
    """The whole number that is written so."""
    figures = text.removeprefix("-")
    if not 1 <= len(figures) <= MOST_FIGURES or not all([figure in FIGURES for figure in figures]):
        raise NoText("no number by figures")
    if figures[0] == "0" and text != "0":
        raise NoText("a 0 ahead of others, or below 0")
    return int(text)


def pair_in(text):
    """The pair of whole numbers that is written so."""
    parts = text.split(",")
    if len(parts) != 2:
        raise NoText("no two numbers with a comma between")
    return (number_in(parts[0]), number_in(parts[1]))


def fraction_in(text):
    """The fraction that is written so."""
    over, line, under = text.partition("/")
    found = (number_in(over), number_in(under) if line else 1)
    if not is_fraction(found) or line and found[1] == 1:
        raise NoText("no fraction in lowest terms")
    return found


def spell_in(text):
    """The spell that is written so."""
    begin, _, end = text[1:-1].partition(" ")
    if not text.startswith("[") and not text.startswith("(") or not text.endswith("]") and not text.endswith(")"):
        raise NoText("a spell begins with a bracket, and ends with one")
    found = (fraction_in(begin), text.startswith("["), fraction_in(end), text.endswith("]"))
    if not is_spell(found):
        raise NoText("no spell")
    return found


def ring_in(text):
    """The ring, or None, that is written so."""
    if text == WITHOUT:
        return None
    found = tuple([pair_in(word) for word in text.split(" ")])
    if not is_ring(found):
        raise NoText("no ring")
    return found


def telling_in(text):
    """The telling that is written so."""
    word, *rest = text.split(" ", 4)
    found = None
    if word == "back" and len(rest) == 1:
        found = (word, number_in(rest[0]))
    elif word == "row" and len(rest) == 4:
        name, moment, pace, ring = rest
        found = (word, name, number_in(moment), ring_in(ring), pair_in(pace))
    if not is_telling(found):
        raise NoText("no telling")
    return found


def question_in(text):
    """The question that is written so."""
    word, _, rest = text.partition(" ")
    if word == "nearest":
        many, _, ring = rest.partition(" ")
        found = (word, ring_in(ring), number_in(many))
    elif word == "touching" or word == "within" or word == "holding":
        found = (word, ring_in(rest))
    elif text == "meets":
        found = (word,)
    else:
        found = (word, *[number_in(number) for number in rest.split(" ")])
    if not is_question(found):
        raise NoText("no question")
    return found


def read_fraction(text):
    """The fraction of a text."""
    need_text(text)
    return fraction_in(text)


def read_spell(text):
    """The spell of a text."""
    need_text(text)
    return spell_in(text)


def read_ring(text):
    """The ring of a text, or None."""
    need_text(text)
    return ring_in(text)


def read_telling(text):
    """The telling of a text."""
    need_text(text)
    return telling_in(text)


def read_question(text):
    """The question of a text."""
    need_text(text)
    return question_in(text)
