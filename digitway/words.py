"""Words of lines: what a line of a story or of a desk asks for."""

from digitway.rounding import is_way
from digitway.shapes import is_shape, is_whole
from digitway.writing import FIGURES_LEAST, FIGURES_MOST, PLACES_LEAST, PLACES_MOST

FIGURES_OF_NUMBERS = 9

# What stands behind the first word of a line.
FORMS = {
    "shape": "shape",
    "way": "way",
    "read": "text",
    "show": "text",
    "figures": "figures and text",
    "places": "places and text",
    "word": "text",
    "rank": "text",
    "up": "text",
    "down": "text",
    "push": "text",
    "back": "nothing",
    "heard": "nothing",
    "known": "nothing",
    "tell": "text",
    "drop": "row",
    "total": "nothing",
    "rows": "nothing",
    "flags": "nothing",
    "settle": "nothing",
}


def asked(line):
    """The first word of a line, and a tuple of what it is given; None of anything that is no line by its form."""
    # A line with a line end is split up or cut.
    if not isinstance(line, str) or line.splitlines() != [line]:
        return None
    word, blank, rest = line.partition(" ")
    if word not in FORMS:
        return None
    form = FORMS[word]
    if form == "nothing":
        return (word, ()) if blank == "" else None
    given = None if blank == "" else given_by(form, rest)
    return None if given is None else (word, given)


def given_by(form, rest):
    """What stands behind the first blank of a line of that form, as a tuple, or None."""
    if form == "text":
        return (rest,)
    if form == "figures and text":
        return many_and_text(rest, FIGURES_LEAST, FIGURES_MOST)
    if form == "places and text":
        return many_and_text(rest, PLACES_LEAST, PLACES_MOST)
    if form == "way":
        return (rest,) if is_way(rest) else None
    if form == "shape":
        shape = tuple([number_in(word) for word in rest.split(" ")])
        return (shape,) if is_shape(shape) else None
    row = number_in(rest)
    return None if row is None else (row,)


def many_and_text(rest, least, most):
    """A number from least to most, and all behind the blank behind it; None where it isn't so."""
    word, blank, text = rest.partition(" ")
    many = number_in(word)
    if blank == "" or not is_whole(many, least, most):
        return None
    return (many, text)


def number_in(word):
    """The whole number that a word tells, or None."""
    figures = word.removeprefix("-")
    if not 1 <= len(figures) <= FIGURES_OF_NUMBERS or figures.strip("0123456789") != "":
        return None
    if figures.startswith("0") and word != "0":
        return None
    return int(word)
