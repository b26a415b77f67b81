"""Rounding in five ways: of fractions to whole numbers, and to the numbers of a shape."""

from digitway.errors import BadValue
from digitway.numbers import Number, greatest, infinite
from digitway.shapes import DOUBLE, want_shape, want_whole

NEAREST = "nearest"
AWAY = "away"
ZERO = "zero"
UP = "up"
DOWN = "down"

INEXACT = "inexact"
OVERFLOW = "overflow"
UNDERFLOW = "underflow"
# All of them, in the order in which they are told.
FLAGS = ("inexact", "overflow", "underflow")

# Ten to 3,000: above all numerators, and the greatest denominator.
FRACTION_END = (10 ** 50) ** 60


def is_way(thing):
    """Whether anything is a way of rounding."""
    return isinstance(thing, str) and thing in (NEAREST, AWAY, ZERO, UP, DOWN)


def want_way(thing):
    """Refuse anything but a way of rounding."""
    if not is_way(thing):
        raise BadValue("way")


def want_fraction(numerator, denominator):
    """Refuse what is no numerator, then what is no denominator."""
    want_whole(numerator, 1 - FRACTION_END, FRACTION_END - 1, "numerator")
    want_whole(denominator, 1, FRACTION_END, "denominator")


def to_whole(numerator, denominator=1, *, way=NEAREST):
    """The whole number to which a fraction is rounded."""
    want_fraction(numerator, denominator)
    want_way(way)
    return whole_near(numerator, denominator, way)


def rounded(numerator, denominator=1, *, shape=DOUBLE, way=NEAREST, sign=0):
    """The pair (number, flags) of a fraction; the sign is that of the zero of 0 alone."""
    want_fraction(numerator, denominator)
    want_shape(shape)
    want_way(way)
    want_whole(sign, 0, 1, "sign")
    return number_near(numerator, denominator, shape, way, sign)


def whole_near(numerator, denominator, way):
    """As to_whole, of a fraction of any length and a way that is one."""
    floor, rest = divmod(numerator, denominator)
    if rest != 0 and goes_up(floor, rest, denominator, way):
        return floor + 1
    return floor


def goes_up(floor, rest, denominator, way):
    """Whether what is above the floor by rest of the denominator is rounded up."""
    if way == UP or way == DOWN:
        return way == UP
    if way == ZERO:
        return floor < 0
    if 2 * rest != denominator:
        return 2 * rest > denominator
    if way == AWAY:
        return floor >= 0
    return floor & 1 == 1


def number_near(numerator, denominator, shape, way, sign):
    """As rounded, of a fraction of any length and others that are what they should be."""
    if numerator == 0:
        return (Number(shape, sign=sign), ())
    own_sign = 1 if numerator < 0 else 0
    precision, low, high = shape
    top = top_two(abs(numerator), denominator)
    exponent = max(low, top - (precision - 1))
    above, below = numerator << max(0, -exponent), denominator << max(0, exponent)
    near = whole_near(above, below, way)
    exact = near * below == above
    significand = abs(near)
    if significand == 1 << precision:
        significand, exponent = significand >> 1, exponent + 1
    if exponent > high:
        return (overflowed(shape, way, own_sign), (INEXACT, OVERFLOW))
    number = Number(shape, sign=own_sign, significand=significand, exponent=exponent)
    if exact:
        return (number, ())
    if top < precision - 1 + low:
        return (number, (INEXACT, UNDERFLOW))
    return (number, (INEXACT,))


def top_two(numerator, denominator):
    """The greatest power to which 2 is at most a fraction above 0."""
    power = numerator.bit_length() - denominator.bit_length()
    # By their bits alone the fraction is at least 2 ** (power - 1) and less than 2 ** (power + 1).
    if (numerator << max(0, -power)) >= (denominator << max(0, power)):
        return power
    return power - 1


def overflowed(shape, way, sign):
    """What is told where the exponent would be more than the greatest."""
    if way == ZERO or (way == UP and sign == 1) or (way == DOWN and sign == 0):
        return greatest(shape, sign=sign)
    return infinite(shape, sign=sign)
