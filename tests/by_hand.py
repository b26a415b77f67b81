"""What the document says, done anew over Python's own fractions, in other ways than the program does it."""

import math
from fractions import Fraction

from digitway.decimals import Decimal
from digitway.numbers import by_rank, greatest, infinite, nan


def value(thing):
    """The value of a number or a decimal."""
    return Fraction(*thing.value())


def pair(fraction):
    return (fraction.numerator, fraction.denominator)


def whole(fraction, way):
    """[7], word by word."""
    floor = math.floor(fraction)
    if floor == fraction:
        return floor
    near = sorted((floor, floor + 1), key=lambda one: abs(fraction - one))
    as_near = abs(fraction - floor) == abs(fraction - floor - 1)
    farther = sorted((floor, floor + 1), key=abs)
    return {
        "nearest": [one for one in near if one % 2 == 0][0] if as_near else near[0],
        "away": farther[1] if as_near else near[0],
        "zero": farther[0],
        "up": floor + 1,
        "down": floor,
    }[way]


def end(shape):
    """The value that stands behind the greatest finite one."""
    return Fraction(2) ** (shape[0] + shape[2])


def at(rank, shape):
    """The value at a rank, sign left out; the infinite one has the next that would be."""
    number = by_rank(rank, shape)
    return end(shape) if number.kind() == "infinite" else value(number)


def rank_below(size, shape):
    """The greatest rank whose value is not above a size, by halving."""
    low, high = 0, infinite(shape).rank()
    while high - low > 1:
        middle = (low + high) // 2
        if at(middle, shape) <= size:
            low = middle
        else:
            high = middle
    return high if at(high, shape) <= size else low


def chosen(size, rank, shape, way):
    """The rank of the one of a rank and the next that a size between them goes to."""
    below, above = size - at(rank, shape), at(rank + 1, shape) - size
    if way in ("zero", "up"):
        return rank + (way == "up")
    if below != above:
        return rank + (below > above)
    # The rank is even where the significand is, as a step of the exponent is an even count of ranks.
    return rank + 1 if way == "away" else rank + rank % 2


def signed(number, sign):
    """The number of sign 0 or, with sign 1, its negated one; a zero, too."""
    return number.negated() if sign else number


def rounded(fraction, shape, way, sign=0):
    """[8] and [9], by a search among the numbers of the shape."""
    fraction = Fraction(fraction)
    if fraction == 0:
        return signed(by_rank(0, shape), sign), ()
    sign = 1 if fraction < 0 else 0
    size = abs(fraction)
    # Sign left out, up and down are away from 0 and towards it, as the sign has it.
    outward = {"up": ("up", "zero"), "down": ("zero", "up")}
    way = outward[way][sign] if way in outward else way
    if size >= end(shape):
        told = greatest(shape) if way == "zero" else infinite(shape)
        return signed(told, sign), ("inexact", "overflow")
    rank = rank_below(size, shape)
    if at(rank, shape) == size:
        return signed(by_rank(rank, shape), sign), ()
    number = by_rank(chosen(size, rank, shape, way), shape)
    if number.kind() == "infinite":
        return signed(number, sign), ("inexact", "overflow")
    if size < Fraction(2) ** (shape[0] - 1 + shape[1]):
        return signed(number, sign), ("inexact", "underflow")
    return signed(number, sign), ("inexact",)


def read(text, shape, way):
    """[13], the decimal by Python's own reading of fractions."""
    if text == "nan":
        return nan(shape), ()
    sign = 1 if text.startswith("-") else 0
    if text.endswith("inf"):
        return infinite(shape, sign=sign), ()
    return rounded(Fraction(text), shape, way, sign)


def bounds(number):
    """[15], by the values of the next numbers."""
    rank = abs(number.rank())
    here = at(rank, number.shape())
    least = (here + at(rank - 1, number.shape())) / 2 if rank else Fraction(0)
    most = (here + at(rank + 1, number.shape())) / 2
    return least, most, number.parts()[0] % 2 == 0


def ten(power):
    return Fraction(10) ** power


def tens_of(size):
    """The power of ten that the first figure of a size above 0 stands for."""
    power = 0
    while ten(power) > size:
        power -= 1
    while ten(power + 1) <= size:
        power += 1
    return power


def all_of_figures(many, least, most, closed, powers):
    """Each (digits, power) of so many figures between two bounds."""
    found = []
    for power in powers:
        first = max(math.ceil(least / ten(power)), 10 ** (many - 1))
        last = min(math.floor(most / ten(power)), 10**many - 1)
        for digits in range(first, last + 1):
            if closed or least < digits * ten(power) < most:
                found.append((digits, power))
    return found


def shortest(number):
    """[16], by looking at each decimal of one figure, of two, and so on, that is between the bounds."""
    size = abs(value(number))
    if size == 0:
        return Decimal(sign=number.sign())
    least, most, closed = bounds(number)
    low, high = tens_of(least), tens_of(most)
    for many in range(1, 30):
        found = all_of_figures(many, least, most, closed, range(low - many, high + 2))
        found = [(digits, power) for digits, power in found if digits % 10]
        if found:
            order = [(abs(digits * ten(power) - size), digits % 2, digits, power) for digits, power in found]
            away, odd, digits, power = min(order)
            assert len([one for one in order if one[:2] == (away, odd)]) == 1
            return Decimal(digits, power, sign=number.sign())
    raise AssertionError("none of so few figures")


def with_power(number, power, way):
    """A number as a multiple of 10 ** power, and its flags."""
    exact = value(number)
    digits = whole(exact / ten(power), way)
    flags = () if digits * ten(power) == exact else ("inexact",)
    return Decimal(abs(digits), power, sign=number.sign()), flags


def with_figures(number, many, way):
    """[18]."""
    if number.kind() == "zero":
        return Decimal(0, 0, sign=number.sign()), ()
    power = tens_of(abs(value(number))) - many + 1
    told, flags = with_power(number, power, way)
    if told.digits() == 10**many:
        return Decimal(10 ** (many - 1), power + 1, sign=number.sign()), flags
    return told, flags
