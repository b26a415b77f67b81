"""Tables of powers of ten by their first bits, and what can be read by these alone."""

from digitway.decimals import Decimal, want_decimal
from digitway.errors import BadValue
from digitway.numbers import by_twos
from digitway.rounding import NEAREST, number_near, top_two, want_way
from digitway.shapes import DOUBLE, is_whole, raised, want_shape, want_whole

BITS = 64
WIDTH = 64

BITS_LEAST = 2
BITS_MOST = 400
WIDTH_MOST = 200
TENS_MOST = 1200


def entry(power, *, bits=BITS):
    """The pair (T, S): the first bits of 10 ** power, and the power of two that the last of them stands for."""
    want_power(power)
    want_bits(bits)
    return first_bits(power, bits)


def is_exact(power, *, bits=BITS):
    """Whether the entry tells all of 10 ** power."""
    want_power(power)
    want_bits(bits)
    return has_all_bits(power, bits)


def opened(decimal, *, bits=BITS, width=WIDTH):
    """The least and the greatest value, sign left out, that the decimal may have by its entry."""
    want_tens(decimal)
    want_bits(bits)
    want_width_of(width, decimal)
    least, most, scale = open_ends(decimal, bits, width)
    return (by_twos(least, scale), by_twos(most, scale))


def by_table(decimal, shape=DOUBLE, *, way=NEAREST, bits=BITS, width=WIDTH):
    """The number that a decimal tells, if its entry is enough to tell it; else None."""
    want_tens(decimal)
    want_shape(shape)
    want_way(way)
    want_bits(bits)
    want_width_of(width, decimal)
    return told_by_bits(decimal, shape, way, bits, width)


def least_bits(decimal, shape=DOUBLE, *, way=NEAREST, width=WIDTH):
    """The least bits with which the decimal is told by table, or None."""
    want_tens(decimal)
    want_shape(shape)
    want_way(way)
    want_width_of(width, decimal)
    if told_by_bits(decimal, shape, way, BITS_MOST, width) is None:
        return None
    # What is told with some bits is told with more, so halving finds the least.
    low, high = BITS_LEAST, BITS_MOST
    while low < high:
        middle = (low + high) // 2
        if told_by_bits(decimal, shape, way, middle, width) is None:
            low = middle + 1
        else:
            high = middle
    return low


def want_power(thing):
    """Refuse anything but a power of ten that has entries."""
    want_whole(thing, -TENS_MOST, TENS_MOST, "power")


def want_bits(thing):
    """Refuse anything but the bits of an entry."""
    want_whole(thing, BITS_LEAST, BITS_MOST, "bits")


def want_width(thing):
    """Refuse anything but a width."""
    want_whole(thing, 1, WIDTH_MOST, "width")


def want_tens(thing):
    """Refuse anything but a decimal whose power has entries."""
    want_decimal(thing)
    if not is_whole(thing.tens(), -TENS_MOST, TENS_MOST):
        raise BadValue("decimal")


def want_width_of(thing, decimal):
    """Refuse anything but a width, and a width that the decimal's digits go beyond."""
    want_width(thing)
    if decimal.digits().bit_length() > thing:
        raise BadValue("width")


def first_bits(power, bits):
    """As entry, of what was let by."""
    above, below = Decimal(1, power).value()
    scale = top_two(above, below) - (bits - 1)
    return ((above << max(0, -scale)) // (below << max(0, scale)), scale)


def has_all_bits(power, bits):
    """As is_exact, of what was let by."""
    # The twos of 10 ** power are told by the scale; the fives are odd, and have to fit; below 0 they never do.
    return power >= 0 and raised(5, power).bit_length() <= bits


def open_ends(decimal, bits, width):
    """The ends of what is open, each as so many of 2 ** scale, and the scale."""
    top, scale = first_bits(decimal.tens(), bits)
    least = decimal.digits() * top
    if decimal.digits() == 0 or has_all_bits(decimal.tens(), bits):
        return (least, least, scale)
    return (least, least + (1 << width), scale)


def told_by_bits(decimal, shape, way, bits, width):
    """As by_table, of what was let by."""
    least, most, scale = open_ends(decimal, bits, width)
    # Rounding keeps the order: where both ends go to one number, all between them do.
    one = rounded_end(least, scale, decimal, shape, way)
    other = rounded_end(most, scale, decimal, shape, way)
    return one if one == other else None


def rounded_end(end, scale, decimal, shape, way):
    """The number to which so many of 2 ** scale are rounded, with the decimal's sign."""
    above, below = by_twos(-end if decimal.sign() == 1 else end, scale)
    number, flags = number_near(above, below, shape, way, decimal.sign())
    return number
