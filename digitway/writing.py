"""Writing: numbers to decimals and texts, with the fewest figures, with told ones, or with all."""

from digitway.decimals import Decimal, want_decimal
from digitway.numbers import MARKS, by_twos, first_normal, want_finite, want_number
from digitway.reading import read_decimal
from digitway.rounding import INEXACT, NEAREST, want_way, whole_near
from digitway.shapes import raised, want_whole

FIGURES_LEAST = 1
FIGURES_MOST = 800
PLACES_LEAST = -400
PLACES_MOST = 1200


class Expansion:
    """The figures of a number, taken one behind the other, without end."""

    def __init__(self, number):
        want_finite(number)
        above, below = size(number)
        first = top_ten(above, below) if above > 0 else 0
        self.own_number = number
        self.own_first = first
        self.own_taken = 0
        # The next figure is how often the base is in the rest, which is less than ten of it.
        self.own_rest, self.own_base = over_ten(above, below, first)

    def take(self, many=1):
        """A list of the next figures."""
        want_whole(many, 0, 2000, "many")
        if many == 0:
            return []
        told, left = divmod(self.own_rest * raised(10, many - 1), self.own_base)
        self.own_rest = 10 * left
        self.own_taken += many
        return [int(figure) for figure in str(told).zfill(many)]

    def tens(self):
        """The power of ten that the next figure stands for."""
        return self.own_first - self.own_taken

    def is_over(self):
        """Whether all figures that come are 0."""
        return self.own_rest == 0

    def taken(self):
        """How many figures were taken."""
        return self.own_taken

    def copy(self):
        """Another one that goes on by itself from here."""
        made = Expansion(self.own_number)
        made.own_rest = self.own_rest
        made.own_taken = self.own_taken
        return made

    def __eq__(self, other):
        return (
            isinstance(other, Expansion)
            and self.own_number == other.own_number
            and self.own_taken == other.own_taken
        )


def bounds(number):
    """(least, most, closed): between which values, sign left out, a decimal reads back."""
    want_finite(number)
    significand, exponent = number.parts()
    least, here, most = quarters(number)
    return (by_twos(least, exponent - 2), by_twos(most, exponent - 2), significand & 1 == 0)


def reads_back(number, decimal):
    """Whether a decimal, read by "nearest", tells the number."""
    want_finite(number)
    want_decimal(decimal)
    told, flags = read_decimal(decimal, number.shape())
    return told == number


def shortest(number):
    """The decimal of the fewest figures that reads back, the nearest of these."""
    want_finite(number)
    above, below = size(number)
    if above == 0:
        return Decimal(sign=number.sign())
    power = top_ten(above, below)
    digits = nearest_within(number, power)
    while digits is None:
        power -= 1
        digits = nearest_within(number, power)
    # Of one figure it may have come to 10.
    return Decimal(digits, power, sign=number.sign()).plain()


def is_shortest(number, decimal):
    """Whether a decimal is the shortest of the number."""
    want_finite(number)
    want_decimal(decimal)
    return decimal == shortest(number)


def show(number):
    """The number as a text, by the figures of its shortest decimal."""
    want_number(number)
    if number.kind() in ("infinite", "nan"):
        return str(number)
    told = shortest(number)
    return MARKS[number.sign()] + with_point(str(told.digits()), len(told) + told.tens())


def with_figures(number, many=17, *, way=NEAREST):
    """The pair (decimal, flags) of a number with so many figures."""
    want_finite(number)
    want_whole(many, FIGURES_LEAST, FIGURES_MOST, "many")
    want_way(way)
    above, below = size(number)
    if above == 0:
        return (Decimal(sign=number.sign()), ())
    told, flags = at_power(number, top_ten(above, below) - many + 1, way)
    if len(told) > many:
        told = Decimal(told.digits() // 10, told.tens() + 1, sign=told.sign())
    return (told, flags)


def with_places(number, places=0, *, way=NEAREST):
    """The pair (decimal, flags) of a number with so many places behind the point."""
    want_finite(number)
    want_whole(places, PLACES_LEAST, PLACES_MOST, "places")
    want_way(way)
    return at_power(number, -places, way)


def at_power(number, power, way):
    """The pair (decimal, flags) of a number rounded to a multiple of 10 ** power."""
    above, below = number.value()
    numerator, denominator = over_ten(above, below, power)
    near = whole_near(numerator, denominator, way)
    flags = () if near * denominator == numerator else (INEXACT,)
    return (Decimal(abs(near), power, sign=number.sign()), flags)


def with_point(figures, point):
    """The figures with the point behind so many of them, or with a power of ten."""
    if 1 <= point <= 16:
        if len(figures) > point:
            return figures[:point] + "." + figures[point:]
        return figures.ljust(point, "0")
    if -4 <= point <= 0:
        return "0." + "0" * -point + figures
    behind = "." + figures[1:] if len(figures) > 1 else ""
    return f"{figures[0]}{behind}e{point - 1}"


def nearest_within(number, power):
    """How often 10 ** power is in the nearest of its multiples that reads back; None if none does."""
    significand, exponent = number.parts()
    least, here, most = quarters(number)
    above, below = by_twos(1, exponent - 2)
    numerator, denominator = over_ten(above, below, power)
    near = whole_near(here * numerator, denominator, NEAREST)
    floor = here * numerator // denominator
    # At a power of two the nearest one may be below the bounds and the one above within.
    for digits in (near, 2 * floor + 1 - near):
        place = digits * denominator
        if least * numerator < place < most * numerator:
            return digits
        if significand & 1 == 0 and place in (least * numerator, most * numerator):
            return digits
    return None


def quarters(number):
    """The least bound, the value and the most bound, each as so many of 2 ** (exponent - 2), sign left out."""
    significand, exponent = number.parts()
    here = 4 * significand
    # Nothing is below 0 as the sign is left out.
    if here == 0:
        return (0, here, 2)
    precision, low, high = number.shape()
    # The number down from a power of two is half as far as that up from it.
    if significand == first_normal(number.shape()) and exponent > low:
        return (here - 1, here, here + 2)
    return (here - 2, here, here + 2)


def size(number):
    """The value, sign left out."""
    above, below = number.value()
    return (abs(above), below)


def top_ten(numerator, denominator):
    """The greatest power to which 10 is at most a fraction above 0."""
    if numerator >= denominator:
        return len(str(numerator // denominator)) - 1
    return -len(str((denominator - 1) // numerator))


def over_ten(numerator, denominator, power):
    """The fraction divided by 10 ** power, not always in lowest terms."""
    if power >= 0:
        return (numerator, denominator * raised(10, power))
    return (numerator * raised(10, -power), denominator)
