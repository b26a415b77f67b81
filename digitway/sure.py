"""Which tables are sure of all digits at a power, with papers of it, and how many figures are enough for a shape."""

from digitway.gaps import hit_of, paper_of, quotient_up
from digitway.numbers import Number, by_twos, first_normal
from digitway.shapes import DOUBLE, want_shape, want_whole
from digitway.tables import BITS, WIDTH, first_bits, has_all_bits, want_bits, want_power, want_width
from digitway.writing import over_ten, reads_back, top_ten, with_figures

MANY_MOST = 30


def unsure(power, shape=DOUBLE, *, bits=BITS, width=WIDTH):
    """The least digits that bits and width don't tell by "nearest" at a power, or None."""
    want_sure(power, shape, bits, width)
    if has_all_bits(power, bits):
        return None
    # Half ways rise with the exponent: lesser digits that reach one of a greater exponent would reach over those of
    # this one, too. So the first exponent that has any has the least.
    for exponent, first, walk, wide, stop in half_way_walks(power, shape, bits, width):
        found = hit_of(walk, 0, wide, stop)
        if found is not None:
            return first + found
    return None


def sure_paper(power, shape=DOUBLE, *, bits=BITS, width=WIDTH):
    """A paper that bits and width are sure of a shape at a power; None where they are not."""
    want_sure(power, shape, bits, width)
    if has_all_bits(power, bits):
        return ()
    rows = []
    for exponent, first, walk, wide, stop in half_way_walks(power, shape, bits, width):
        paper = paper_of(walk, 0, wide, stop)
        if paper is None:
            return None
        rows.append((exponent, paper))
    return tuple(rows)


def first_lost(shape, many):
    """The number of the least rank above 0 that doesn't read back from so many figures, or None."""
    want_shape(shape)
    want_whole(many, 1, MANY_MOST, "many")
    precision, low, high = shape
    for exponent in range(low, high + 1):
        significand = lost_at(exponent, shape, many)
        if significand is not None:
            return Number(shape, significand=significand, exponent=exponent)
    return None


def enough(shape):
    """The least count of figures from which each number of a shape reads back."""
    many = 1
    while first_lost(shape, many) is not None:
        many += 1
    return many


def want_sure(power, shape, bits, width):
    """Refuse what is no power, no shape, no bits or no width, in this order."""
    want_power(power)
    want_shape(shape)
    want_bits(bits)
    want_width(width)


def half_way_walks(power, shape, bits, width):
    """A row for each exponent whose half ways the stretches of digits may reach, where the entry isn't exact.

    It is (exponent, the first of these digits, the walk, the greatest point that hits, and the stop). Where that
    point is beyond the walk's circle each step hits.
    """
    top, scale = first_bits(power, bits)
    precision, low, high = shape
    digits_most = (1 << width) - 1
    rows = []
    for exponent in range(low, high + 1):
        finer = max(0, scale + 1 - exponent)
        step = top << finer
        half = 1 << (exponent - 1 - scale + finer)
        wide = 1 << (width + finer)
        least_half = half if exponent == low else (2 * first_normal(shape) + 1) * half
        most_half = ((2 << precision) - 1) * half
        first = max(1, quotient_up(least_half - wide, step))
        last = min(digits_most, most_half // step)
        if first <= last:
            walk = ((first * step + wide - half) % (2 * half), step % (2 * half), 2 * half)
            rows.append((exponent, first, walk, wide, last - first))
    return rows


def lost_at(exponent, shape, many):
    """The least significand of an exponent whose number is lost, or None."""
    first = 1
    if exponent > shape[1]:
        first = first_normal(shape)
        # The number down from a power of two is half as far as all others at this exponent.
        number = Number(shape, significand=first, exponent=exponent)
        told, flags = with_figures(number, many)
        if not reads_back(number, told):
            return first
        first += 1
    last = (1 << shape[0]) - 1
    while first <= last:
        above, below = by_twos(first, exponent)
        tens = top_ten(above, below)
        end = min(last, last_below_ten(tens + 1, exponent))
        found = lost_between(first, end, exponent, tens - many + 1)
        if found is not None:
            return found
        first = end + 1
    return None


def last_below_ten(power, exponent):
    """The greatest significand whose value at an exponent is less than 10 ** power."""
    above, below = by_twos(1, exponent)
    above, below = over_ten(above, below, power)
    return (below - 1) // above


def lost_between(first, last, exponent, power):
    """The least of some significands whose value is too far from all multiples of 10 ** power, or None."""
    above, below = by_twos(1, exponent)
    above, below = over_ten(above, below, power)
    # Where the multiples are no farther from one another than the numbers, one is always near enough.
    if above >= below:
        return None
    found = [lost_of_kind(begin, last, above, below) for begin in (first, first + 1) if begin <= last]
    return min([significand for significand in found if significand is not None], default=None)


def lost_of_kind(first, last, above, below):
    """The least lost significand, or None, of those that are odd as the first is, or even as it is.

    The numbers are above apart and the multiples below, both doubled here, so that half ways are whole.
    """
    # At a half way only an even one is read.
    spare = 1 - (first & 1)
    walk = (2 * first * above % (2 * below), 4 * above % (2 * below), 2 * below)
    found = hit_of(walk, above + spare, 2 * below - above - spare, (last - first) // 2)
    return None if found is None else first + 2 * found
