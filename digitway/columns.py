"""Columns: texts with their numbers, totals, and stories of what is done to them."""

from digitway.errors import BadText, BadValue, NoRow, Untold
from digitway.numbers import INFINITE, NAN, infinite, nan, side
from digitway.reading import read
from digitway.rounding import FLAGS, NEAREST, number_near, want_way
from digitway.shapes import DOUBLE, LOW_LEAST, is_whole, want_shape
from digitway.words import asked

MOST_ROWS = 300
MOST_LINES = 300


class Column:
    """Rows of texts, each told by a shape and a way, with the number and the flags of each."""

    def __init__(self, shape=DOUBLE, *, way=NEAREST, texts=()):
        want_shape(shape)
        want_way(way)
        if not is_list(texts):
            raise BadValue("texts")
        self.own_shape = shape
        self.own_way = way
        # Each row is (text, shape, way, number).
        self.own_rows = []
        self.own_flags = ()
        for text in texts:
            try:
                self.tell(text)
            except BadText:
                raise BadValue("texts") from None

    def shape(self):
        return self.own_shape

    def way(self):
        return self.own_way

    def turn(self, *, shape=None, way=None):
        """Tell what comes by another shape or way; None is as it is."""
        self.own_shape, self.own_way = chosen(self, shape, way)

    def tell(self, text):
        """Add a row; the pair (number, flags) that its text tells."""
        return tell_by(self, text, self.own_shape, self.own_way)

    def tell_within(self, texts, *, shape=None, way=None):
        """Add a row for each text, told by another shape or way, up to the first that is refused; a list of pairs."""
        if not is_list(texts):
            raise BadValue("texts")
        told_shape, told_way = chosen(self, shape, way)
        return [tell_by(self, text, told_shape, told_way) for text in texts]

    def drop(self, place):
        """Let a row go; its text."""
        want_row(self, place)
        return self.own_rows.pop(place)[0]

    def row_told(self, place):
        """The triple (text, shape, way) of a row."""
        want_row(self, place)
        return self.own_rows[place][:3]

    def number(self, place):
        """The number of a row."""
        want_row(self, place)
        return self.own_rows[place][3]

    def numbers(self):
        """A list of the numbers of all rows."""
        return [row[3] for row in self.own_rows]

    def flags(self):
        """The flags of all that was told since they were settled."""
        return self.own_flags

    def settle(self):
        """The flags, and there are none then."""
        told = self.own_flags
        self.own_flags = ()
        return told

    def same(self):
        """Lists of the rows whose numbers are equal, two or more each."""
        numbers = self.numbers()
        found = []
        for at, number in enumerate(numbers):
            alike = [other for other, one in enumerate(numbers) if one == number]
            if len(alike) > 1 and alike[0] == at:
                found.append(alike)
        return found

    def ranked(self):
        """The rows, rising by the values of their numbers, nan behind all."""
        numbers = self.numbers()
        heights = {at: height(number) for at, number in enumerate(numbers) if number.kind() != NAN}
        rising = sorted(list(heights), key=lambda at: heights[at])
        return rising + [at for at, number in enumerate(numbers) if number.kind() == NAN]

    def total(self, *, shape=None, way=None):
        """The pair (number, flags) of the exact sum of all rows, rounded once."""
        told_shape, told_way = chosen(self, shape, way)
        return total_of(self.numbers(), told_shape, told_way)

    def turned(self, *, shape=None, way=None):
        """Another column of another shape or way, with the same texts told by these."""
        told_shape, told_way = chosen(self, shape, way)
        return Column(told_shape, way=told_way, texts=[row[0] for row in self.own_rows])

    def twice(self, shape, *, way=None):
        """The rows whose text tells another number, by a shape and a way, than their number does."""
        want_shape(shape)
        told_shape, told_way = chosen(self, shape, way)
        return [at for at, row in enumerate(self.own_rows) if tells_another(row, told_shape, told_way)]

    def story(self, lines):
        """Do what all lines say, or nothing."""
        if not is_list(lines) or len(lines) > MOST_LINES:
            raise Untold(None)
        tried = self.copy()
        for place, line in enumerate(lines):
            try:
                do_line(tried, line)
            except (BadValue, NoRow):
                raise Untold(place) from None
        self.own_shape = tried.own_shape
        self.own_way = tried.own_way
        self.own_rows = tried.own_rows
        self.own_flags = tried.own_flags

    def copy(self):
        """Another one that goes on by itself from here."""
        made = Column(self.own_shape, way=self.own_way)
        made.own_rows = list(self.own_rows)
        made.own_flags = self.own_flags
        return made

    def __eq__(self, other):
        return (
            isinstance(other, Column)
            and self.own_shape == other.own_shape
            and self.own_way == other.own_way
            and self.own_rows == other.own_rows
            and self.own_flags == other.own_flags
        )

    def __len__(self):
        return len(self.own_rows)


def is_list(thing):
    """Whether anything is a list or a tuple."""
    return isinstance(thing, (list, tuple))


def want_row(column, thing):
    """Refuse anything but the number of a row."""
    if not is_whole(thing, 0, len(column) - 1):
        raise NoRow(thing)


def chosen(column, shape, way):
    """The shape and the way that are told, or the column's own where None is."""
    told_shape = column.shape() if shape is None else shape
    told_way = column.way() if way is None else way
    want_shape(told_shape)
    want_way(told_way)
    return (told_shape, told_way)


def tell_by(column, text, shape, way):
    """Add a row to a column; the pair (number, flags) that its text tells by a shape and a way."""
    number, flags = read(text, shape, way=way)
    if len(column) == MOST_ROWS:
        raise BadValue("texts")
    column.own_rows.append((text, shape, way, number))
    column.own_flags = tuple([flag for flag in FLAGS if flag in column.own_flags or flag in flags])
    return (number, flags)


def units(number):
    """The value of a finite number as so many of the least value that any shape has."""
    significand, exponent = number.parts()
    size = significand << (exponent - LOW_LEAST)
    return -size if number.sign() == 1 else size


def height(number):
    """What rises with the values of numbers of all shapes that aren't nan."""
    return (side(number), 0 if number.kind() == INFINITE else units(number))


def total_of(numbers, shape, way):
    """The pair (number, flags) of the sum of some numbers."""
    sides = [side(number) for number in numbers]
    if NAN in [number.kind() for number in numbers] or (1 in sides and -1 in sides):
        return (nan(shape), ())
    if 1 in sides or -1 in sides:
        return (infinite(shape, sign=1 if -1 in sides else 0), ())
    whole = sum([units(number) for number in numbers])
    # Where none has sign 0 the sum is 0 only of noughts.
    sign = 1 if len(numbers) > 0 and 0 not in [number.sign() for number in numbers] else 0
    return number_near(whole, 1 << -LOW_LEAST, shape, way, sign)


def tells_another(row, shape, way):
    """Whether a row's text tells another number, by a shape and a way, than the row's number does."""
    text, told_shape, told_way, number = row
    once, flags = read(text, shape, way=way)
    return once != rounded_again(number, shape, way)


def rounded_again(number, shape, way):
    """A number as one of another shape."""
    if number.kind() == NAN:
        return nan(shape)
    if number.kind() == INFINITE:
        return infinite(shape, sign=number.sign())
    above, below = number.value()
    again, flags = number_near(above, below, shape, way, number.sign())
    return again


def do_line(column, line):
    """Do what a line of a story says, or refuse it by BadValue or NoRow."""
    word, given = asked(line) or ("", ())
    if word == "tell":
        column.tell(given[0])
    elif word == "drop":
        column.drop(given[0])
    elif word == "shape":
        column.turn(shape=given[0])
    elif word == "way":
        column.turn(way=given[0])
    elif word == "settle":
        column.settle()
    else:
        raise BadValue("line")
