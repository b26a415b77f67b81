"""Tables, gaps and papers by the words of the document, over Python's own fractions and by plain searches."""

import math
from fractions import Fraction


def two(power):
    return Fraction(2) ** power


def entry(power, bits):
    """[50], by trying one power of two behind the other."""
    ten = Fraction(10) ** power
    scale = ten.numerator.bit_length() - ten.denominator.bit_length() - bits - 2
    while math.floor(ten / two(scale)) >= 2**bits:
        scale += 1
    return math.floor(ten / two(scale)), scale


def is_exact(power, bits):
    top, scale = entry(power, bits)
    return top * two(scale) == Fraction(10) ** power


def opened(digits, power, bits, width):
    """[51]: the least and the greatest of what is open."""
    top, scale = entry(power, bits)
    least = digits * top * two(scale)
    if digits == 0 or is_exact(power, bits):
        return least, least
    return least, (digits * top + 2**width) * two(scale)


def hits(walk, least, most, stop, many):
    """Each step below many, and up to the stop, that hits."""
    start, step, modulus = walk
    return [
        at
        for at in range(many)
        if (stop is None or at <= stop) and least <= (start + at * step) % modulus <= most
    ]


def gap_above(ahead, rise, behind, fall, at, last):
    if at + ahead <= last:
        return rise
    return fall if at >= behind else rise + fall


def comes_out(walk, least, most, paper, stop):
    """[54], word by word."""
    start, step, modulus = walk
    ahead, rise, behind, fall, at = paper
    if min(ahead, behind) < 1 or min(rise, fall, at) < 0:
        return False
    if ahead * fall + behind * rise != modulus:
        return False
    if (ahead * step - rise) % modulus or (behind * step + fall) % modulus:
        return False
    told = stop is not None
    if not (told and stop < ahead + behind or (ahead + behind) * step % modulus == 0):
        return False
    last = min(ahead + behind - 1, stop) if told else ahead + behind - 1
    if at > last:
        return False
    left = (least - (start + at * step)) % modulus
    return left >= 1 and left + most - least < gap_above(ahead, rise, behind, fall, at, last)


def half_ways(shape, exponent):
    """[56], of a small shape at one exponent."""
    precision, low, high = shape
    first = 0 if exponent == low else 2 ** (precision - 1)
    return [(2 * significand + 1) * two(exponent - 1) for significand in range(first, 2**precision)]


def all_half_ways(shape):
    return [half for exponent in range(shape[1], shape[2] + 1) for half in half_ways(shape, exponent)]


def has_half_way(shape, least, most):
    """Whether a half way of any shape lies from one value to another."""
    precision, low, high = shape
    for exponent in range(low, high + 1):
        first = 0 if exponent == low else 2 ** (precision - 1)
        # (2 * M + 1) * 2 ** (exponent - 1) is least or the next above it.
        found = max(first, math.ceil((least / two(exponent - 1) - 1) / 2))
        if found < 2**precision and (2 * found + 1) * two(exponent - 1) <= most:
            return True
    return False


def unsure(power, shape, bits, width):
    """The least digits with a half way in what is open, by trying all; None of none, and of an exact entry."""
    if is_exact(power, bits):
        return None
    halves = all_half_ways(shape)
    for digits in range(1, 2**width):
        least, most = opened(digits, power, bits, width)
        if any(least <= half <= most for half in halves):
            return digits
    return None


def rows(power, shape, bits, width):
    """[57]: (exponent, FIRST, LAST, walk, X) for each exponent that has a row, over fractions."""
    precision, low, high = shape
    top, scale = entry(power, bits)
    found = []
    for exponent in range(low, high + 1):
        finer = scale + 1 - exponent if scale + 1 - exponent > 0 else 0
        step, half, wide = top * 2**finer, 2 ** (exponent - 1 - scale + finer), 2 ** (width + finer)
        least = 0 if exponent == low else 2 ** (precision - 1)
        first = math.ceil(Fraction((2 * least + 1) * half - wide, step))
        last = math.floor(Fraction((2 * (2**precision - 1) + 1) * half, step))
        first, last = max(first, 1), min(last, 2**width - 1)
        if first <= last:
            walk = ((first * step + wide - half) % (2 * half), step % (2 * half), 2 * half)
            found.append((exponent, first, last, walk, wide))
    return found


def sure_comes_out(power, paper, shape, bits, width):
    """[57], of a tuple of pairs of an exponent and a gap's paper."""
    if is_exact(power, bits):
        return paper == ()
    wanted = rows(power, shape, bits, width)
    if [row[0] for row in wanted] != [row[0] for row in paper]:
        return False
    return all(
        wide < walk[2] and comes_out(walk, 0, wide, gap, last - first)
        for (exponent, first, last, walk, wide), (told, gap) in zip(wanted, paper)
    )
