"""Reading: texts to decimals, and both to numbers of a shape."""

from digitway.decimals import Decimal, want_decimal
from digitway.errors import BadText
from digitway.numbers import infinite, nan
from digitway.rounding import NEAREST, number_near, want_way
from digitway.shapes import DOUBLE, want_shape

MOST_SIGNS = 1900

# Where a text stands, and by which sign it goes on to where; "0" is any figure.
START = "start"
STEPS = {
    ("start", "n"): "n",
    ("n", "a"): "na",
    ("na", "n"): "nan",
    ("start", "+"): "signed",
    ("start", "-"): "signed",
    ("start", "i"): "i",
    ("signed", "i"): "i",
    ("i", "n"): "in",
    ("in", "f"): "inf",
    ("start", "0"): "figures",
    ("signed", "0"): "figures",
    ("figures", "0"): "figures",
    ("start", "."): "lone point",
    ("signed", "."): "lone point",
    ("figures", "."): "places",
    ("lone point", "0"): "places",
    ("places", "0"): "places",
    ("figures", "e"): "e",
    ("places", "e"): "e",
    ("e", "+"): "signed e",
    ("e", "-"): "signed e",
    ("e", "0"): "e 1",
    ("signed e", "0"): "e 1",
    ("e 1", "0"): "e 2",
    ("e 2", "0"): "e 3",
    ("e 3", "0"): "e 4",
}
# Where a text may end.
ENDS = ("nan", "inf", "figures", "places", "e 1", "e 2", "e 3", "e 4")


def read_text(text):
    """The decimal that a text tells, or one of the texts "inf", "-inf", "nan"."""
    want_text(text)
    return told_by(text)


def read(text, shape=DOUBLE, *, way=NEAREST):
    """The pair (number, flags) that a text tells."""
    want_text(text)
    want_shape(shape)
    want_way(way)
    return number_told(text, shape, way)


def read_decimal(decimal, shape=DOUBLE, *, way=NEAREST):
    """The pair (number, flags) that a decimal tells."""
    want_decimal(decimal)
    want_shape(shape)
    want_way(way)
    numerator, denominator = decimal.value()
    return number_near(numerator, denominator, shape, way, decimal.sign())


def want_text(thing):
    """Refuse anything but a text, by the place of the first sign that is wrong or lacks."""
    if not isinstance(thing, str):
        raise BadText(0)
    if len(thing) > MOST_SIGNS:
        raise BadText(MOST_SIGNS)
    place, state = gone(START, thing)
    if place < len(thing) or state not in ENDS:
        raise BadText(place)


def gone(state, signs):
    """How many of the signs go on from a state, one behind the other, and where the text stands then."""
    for place, sign in enumerate(signs):
        following = stepped(state, sign)
        if following is None:
            return (place, state)
        state = following
    return (len(signs), state)


def stepped(state, sign):
    """Where a text stands behind one more sign, or None where none goes on so."""
    return STEPS.get((state, "0" if "0" <= sign <= "9" else sign))


def told_by(text):
    """As read_text, of a text, however many signs it has."""
    bare = text.lstrip("+")
    if bare in ("inf", "-inf", "nan"):
        return bare
    figures, mark, power = bare.lstrip("-").partition("e")
    ahead, point, behind = figures.partition(".")
    told = int(power) if mark == "e" else 0
    return Decimal(int(ahead + behind), told - len(behind), sign=1 if bare.startswith("-") else 0)


def number_told(text, shape, way):
    """As read, of a text, however many signs it has, and others that are what they should be."""
    told = told_by(text)
    if isinstance(told, Decimal):
        return read_decimal(told, shape, way=way)
    if told == "nan":
        return (nan(shape), ())
    return (infinite(shape, sign=1 if told == "-inf" else 0), ())
