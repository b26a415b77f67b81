"""Feeds: texts that come by pieces, and what is known of their number ahead of their end."""

from digitway.errors import BadText, BadValue, CantBe
from digitway.reading import ENDS, MOST_SIGNS, START, gone, number_told, read, read_decimal, stepped, told_by
from digitway.rounding import NEAREST, number_near, overflowed, want_way
from digitway.shapes import DOUBLE, raised, want_shape

# All signs of texts, in the order in which they are told.
SIGNS = "+-.0123456789aefin"

# What a word lacks, by where a text stands.
WORD_ENDS = {"n": "an", "na": "n", "nan": "", "i": "nf", "in": "f", "inf": ""}

# The figures with which the power behind an "e" is nearest to 0 and farthest from it.
POWER_ENDS = {
    "e": ("0", "9999"),
    "signed e": ("0", "9999"),
    "e 1": ("", "999"),
    "e 2": ("", "99"),
    "e 3": ("", "9"),
    "e 4": ("", ""),
}


class Feed:
    """A text that is heard by pieces and read into a shape by a way."""

    def __init__(self, shape=DOUBLE, *, way=NEAREST):
        want_shape(shape)
        want_way(way)
        self.own_shape = shape
        self.own_way = way
        self.own_pieces = []
        # Where the text stands ahead of all pieces and behind each of them.
        self.own_states = [START]

    def push(self, piece):
        """Hear one more piece, whole or not at all; how many signs are heard then."""
        if not isinstance(piece, str):
            raise BadValue("piece")
        well, state = gone(self.own_states[-1], piece)
        place = len(self) + well
        if well < len(piece) or place > MOST_SIGNS:
            raise BadText(min(place, MOST_SIGNS))
        self.own_pieces.append(piece)
        self.own_states.append(state)
        return place

    def back(self):
        """Take the last piece back, and tell it."""
        if len(self.own_pieces) == 0:
            raise CantBe("back")
        self.own_states.pop()
        return self.own_pieces.pop()

    def heard(self):
        """All pieces together."""
        return "".join(self.own_pieces)

    def pieces(self):
        """A list of all pieces."""
        return list(self.own_pieces)

    def is_text(self):
        """Whether what is heard is a text as it is."""
        return self.own_states[-1] in ENDS

    def told(self):
        """The pair (number, flags) that is read of what is heard."""
        return read(self.heard(), self.own_shape, way=self.own_way)

    def known(self, *, figures=False):
        """The number that is told whatever follows, or whatever figures alone follow; None where that is open."""
        return known_number(self.heard(), self.own_states[-1], self.own_shape, self.own_way, figures)

    def copy(self):
        """Another one that goes on by itself from here."""
        made = Feed(self.own_shape, way=self.own_way)
        made.own_pieces = list(self.own_pieces)
        made.own_states = list(self.own_states)
        return made

    def __eq__(self, other):
        return (
            isinstance(other, Feed)
            and self.own_shape == other.own_shape
            and self.own_way == other.own_way
            and self.own_pieces == other.own_pieces
        )

    def __len__(self):
        return len(self.heard())


def follows(text):
    """All signs that can follow a text, if anything is the beginning of one."""
    if not isinstance(text, str):
        return ""
    well, state = gone(START, text)
    if well < len(text):
        return ""
    return "".join([sign for sign in SIGNS if stepped(state, sign) is not None])


def known_number(heard, state, shape, way, figures):
    """The number that all texts tell that begin with what is heard, or go on with figures alone; else None."""
    if state in WORD_ENDS:
        lacking = WORD_ENDS[state]
        # No text begins so and goes on with figures.
        if figures and lacking != "":
            return None
        return plain_number(heard + lacking, shape, way)
    if state in POWER_ENDS:
        near, far = POWER_ENDS[state]
        if state == "e" and not figures:
            near = "-9999"
        return only_one(plain_number(heard + near, shape, way), plain_number(heard + far, shape, way))
    # An "e" may still follow: with -9999 it goes below the least number, with 9999 above the greatest.
    if not figures:
        return None
    if state == "figures":
        number = plain_number(heard, shape, way)
        # However great it is, what follows can be greater.
        return only_one(number, overflowed(shape, way, number.sign()))
    if state in ("places", "lone point"):
        return known_by_places(heard, shape, way)
    return None


def known_by_places(heard, shape, way):
    """As known_number, of what is heard with a point and goes on with figures alone."""
    # The nought tells nothing, and makes a text of a lone point.
    told = told_by(heard + "0")
    number, flags = read_decimal(told, shape, way=way)
    # All that can follow is less than this by 1 in the last figure ahead of the nought. Numbers and half ways are
    # multiples of 2 ** (LOW - 1): so what is lower by less than that, over the power of ten, goes where the last do.
    finer = 2 - shape[1]
    above = ((told.digits() + 10) << finer) - 1
    below = raised(10, -told.tens()) << finer
    last, last_flags = number_near(-above if told.sign() == 1 else above, below, shape, way, told.sign())
    return only_one(number, last)


def plain_number(text, shape, way):
    """The number that a text tells, without its flags."""
    number, flags = number_told(text, shape, way)
    return number


def only_one(one, other):
    """The number that two ends tell, if it is the same; else None."""
    return one if one == other else None
