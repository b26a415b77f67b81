"""Entries of tables, what is open by them, and what is read by them."""

import unittest
from fractions import Fraction
from itertools import product

from digitway.decimals import Decimal
from digitway.numbers import Number, greatest, infinite
from digitway.reading import read_decimal
from digitway.shapes import DOUBLE, HALF, SINGLE
from digitway.tables import BITS, WIDTH, by_table, entry, is_exact, least_bits, opened

from tests import by_hand, sure_by_hand
from tests.things import BOUND_SHAPES, SMALL_SHAPES, WAYS, all_parts, refused

POWERS = (-1200, -1199, -400, -343, -342, -100, -28, -27, -5, -2, -1, 0, 1, 2, 5, 22, 27, 28, 55, 56, 172, 173, 308)
POWERS += (309, 400, 1199, 1200)

MANY_BITS = (2, 3, 4, 11, 53, 63, 64, 65, 128, 399, 400)


class Constants(unittest.TestCase):
    def test_defaults(self):
        self.assertEqual((BITS, WIDTH), (64, 64))
        self.assertTrue(type(BITS) is int and type(WIDTH) is int)


class Entry(unittest.TestCase):
    def check(self, power, bits):
        told = entry(power, bits=bits)
        self.assertTrue(type(told) is tuple and [type(part) for part in told] == [int, int])
        top, scale = told
        ten = Fraction(10) ** power
        self.assertEqual(top.bit_length(), bits)
        self.assertTrue(top * Fraction(2) ** scale <= ten < (top + 1) * Fraction(2) ** scale, (power, bits))
        exact = is_exact(power, bits=bits)
        self.assertTrue(exact is (top * Fraction(2) ** scale == ten), (power, bits))

    def test_against_exact_products(self):
        for power, bits in product(POWERS, MANY_BITS):
            self.check(power, bits)

    def test_each_power_and_each_count_of_bits(self):
        for power in range(-1200, 1201, 7):
            self.check(power, 64)
        for bits in range(2, 401):
            self.check(-1, bits)
            self.check(40, bits)

    def test_as_it_stands(self):
        self.assertEqual(entry(0), (2**63, -63))
        self.assertEqual(entry(1), (10 * 2**60, -60))
        self.assertEqual(entry(-1), (0xCCCCCCCCCCCCCCCC, -67))
        self.assertEqual(entry(0, bits=2), (2, -1))
        self.assertEqual(entry(1, bits=2), (2, 2))
        self.assertEqual(entry(2, bits=3), (6, 4))
        self.assertEqual(entry(-1, bits=4), (12, -7))

    def test_the_default_and_names(self):
        for power in POWERS:
            self.assertEqual(entry(power), entry(power, bits=64))
            self.assertEqual(entry(power=power), entry(bits=64, power=power))
            self.assertTrue(is_exact(power) is is_exact(power=power, bits=64))


class Exact(unittest.TestCase):
    def test_fives_that_just_fit(self):
        for bits in range(3, 401):
            power = max(power for power in range(200) if 5**power < 2**bits)
            self.assertTrue(is_exact(power, bits=bits) is True, bits)
            self.assertTrue(is_exact(power + 1, bits=bits) is False, bits)

    def test_known_ones(self):
        for bits, last in ((2, 0), (3, 1), (53, 22), (64, 27), (128, 55), (400, 172)):
            self.assertEqual([power for power in range(-1200, 1201) if is_exact(power, bits=bits)], list(range(last + 1)))

    def test_none_below_0(self):
        for power in (-1, -2, -27, -1200):
            for bits in MANY_BITS:
                self.assertTrue(is_exact(power, bits=bits) is False)


def some_digits(width):
    last = 2**width - 1
    return sorted({digit for digit in (0, 1, 2, 3, 5, 7, 10, last // 3, last // 2, last - 1, last) if 0 <= digit <= last})


class Opened(unittest.TestCase):
    def check(self, digits, power, bits, width):
        wanted = sure_by_hand.opened(digits, power, bits, width)
        for sign in (0, 1):
            told = opened(Decimal(digits, power, sign=sign), bits=bits, width=width)
            self.assertEqual(told, tuple(by_hand.pair(end) for end in wanted), (digits, power, bits, width))
        self.assertTrue(wanted[0] <= digits * Fraction(10) ** power <= wanted[1])
        return wanted

    def test_against_fractions(self):
        for power, bits in product(POWERS, (2, 11, 64, 400)):
            for width in (1, 2, 64, 200):
                for digits in some_digits(width):
                    least, most = self.check(digits, power, bits, width)
                    alone = digits == 0 or sure_by_hand.is_exact(power, bits)
                    self.assertTrue((least == most) is alone)

    def test_small_ones(self):
        for digits, power, bits in product(range(8), range(-4, 5), (2, 3, 5, 8)):
            self.check(digits, power, bits, 3)

    def test_as_it_stands(self):
        self.assertEqual(opened(Decimal(3, 1), bits=4, width=2), ((30, 1), (30, 1)))
        self.assertEqual(opened(Decimal(3, 1), bits=2, width=2), ((24, 1), (40, 1)))
        self.assertEqual(opened(Decimal(3, 1, sign=1), bits=2, width=3), ((24, 1), (56, 1)))
        self.assertEqual(opened(Decimal(0, -1), bits=2, width=2), ((0, 1), (0, 1)))
        self.assertEqual(opened(Decimal(1, -1), bits=4, width=1), ((3, 32), (7, 64)))

    def test_kinds(self):
        told = opened(Decimal(1, -3))
        self.assertTrue(type(told) is tuple and all(type(end) is tuple for end in told))
        self.assertTrue(all(type(part) is int for end in told for part in end))

    def test_the_defaults_and_names(self):
        decimal = Decimal(123, -45)
        self.assertEqual(opened(decimal), opened(width=64, decimal=decimal, bits=64))
        self.assertEqual(opened(decimal, bits=70), opened(decimal, width=64, bits=70))
        self.assertEqual(opened(decimal, width=70), opened(decimal, width=70, bits=64))

    def test_more_bits_open_less(self):
        for digits, power, width in product((1, 3, 7, 12, 15), (-30, -2, 3, 40), (4, 9)):
            wider = None
            for bits in range(2, 120):
                least, most = [Fraction(*end) for end in opened(Decimal(digits, power), bits=bits, width=width)]
                if wider is not None:
                    self.assertTrue(wider[0] <= least <= most <= wider[1])
                wider = (least, most)

    def test_digits_at_the_width(self):
        for width in (1, 2, 63, 64, 200):
            opened(Decimal(2**width - 1, 3), width=width)
            for digits in (2**width, 2**width + 1, 2 ** (width + 1), 10**1999):
                for call in (opened, by_table, least_bits):
                    refused(self, "width", call, Decimal(digits, 3), width=width)
                    refused(self, "width", call, Decimal(digits, 0, sign=1), width=width)

    def test_the_widest_by_default(self):
        for call in (opened, by_table, least_bits):
            call(Decimal(2**64 - 1, -3))
            refused(self, "width", call, Decimal(2**64, -3))


def edges(shape):
    """Where rounding to a small shape changes: each value, each half way, and the end."""
    values = {significand * Fraction(2) ** exponent for significand, exponent in all_parts(shape)}
    return sorted(values | set(sure_by_hand.all_half_ways(shape)) | {by_hand.end(shape)})


def all_numbers(shape, way, sign, least, most):
    """The texts of all numbers to which something from least to most is rounded."""
    inside = [edge for edge in edges(shape) if least <= edge <= most]
    marks = sorted({least, most, *inside})
    marks += [(one + other) / 2 for one, other in zip(marks, marks[1:])]
    return {str(by_hand.rounded(-mark if sign else mark, shape, way, sign)[0]) for mark in marks}


class ByTable(unittest.TestCase):
    def test_all_that_is_open_by_small_shapes(self):
        seen = {True: 0, False: 0}
        for shape in SMALL_SHAPES[:6]:
            for power, bits, way, sign in product((-3, -1, 0, 1, 2), (2, 4, 7), WAYS, (0, 1)):
                for digits in range(1, 8):
                    least, most = sure_by_hand.opened(digits, power, bits, 3)
                    wanted = all_numbers(shape, way, sign, least, most)
                    told = by_table(Decimal(digits, power, sign=sign), shape, way=way, bits=bits, width=3)
                    self.assertTrue((told is not None) is (len(wanted) == 1), (shape, power, bits, way, sign, digits))
                    if told is not None:
                        self.assertEqual(({str(told)}, told.shape(), told.sign()), (wanted, shape, sign))
                    seen[told is not None] += 1
        self.assertTrue(min(seen.values()) > 400, seen)

    def test_both_ends_by_all_shapes(self):
        for shape, way in product((HALF, SINGLE, DOUBLE) + BOUND_SHAPES, WAYS):
            for power, bits, sign in product((-330, -24, -1, 3, 30, 305), (2, 64, 128), (0, 1)):
                for digits in (1, 5, 10**19 - 1, 2**64 - 1):
                    ends = sure_by_hand.opened(digits, power, bits, 64)
                    ends = [by_hand.rounded(-end if sign else end, shape, way)[0] for end in ends]
                    told = by_table(Decimal(digits, power, sign=sign), shape, way=way, bits=bits)
                    self.assertTrue((told is not None) is (ends[0] == ends[1]))
                    self.assertTrue(told is None or told == ends[0])

    def test_what_is_told_is_what_reading_tells(self):
        told_at_all = 0
        for shape, way, sign in product((HALF, SINGLE, DOUBLE, (2, 0, 0), (64, -1100, 1000)), WAYS, (0, 1)):
            for power in (-1200, -345, -324, -60, -8, -1, 0, 1, 22, 28, 60, 290, 308, 1200):
                for digits in (0, 1, 9, 25, 123456789, 2**53 + 1, 2**64 - 1):
                    decimal = Decimal(digits, power, sign=sign)
                    told = by_table(decimal, shape, way=way)
                    if told is not None:
                        told_at_all += 1
                        self.assertTrue(told == read_decimal(decimal, shape, way=way)[0])
        self.assertTrue(told_at_all > 2000, told_at_all)

    def test_noughts(self):
        for shape, way, power in product((HALF, DOUBLE) + BOUND_SHAPES, WAYS, (-1200, -1, 0, 1, 1200)):
            for sign in (0, 1):
                told = by_table(Decimal(0, power, sign=sign), shape, way=way, bits=2, width=1)
                self.assertTrue(told == Number(shape, sign=sign))

    def test_exact_entries_tell_all(self):
        for power, digits, way in product(range(28), (1, 3, 2**63 + 1, 2**64 - 1), WAYS):
            decimal = Decimal(digits, power)
            for shape in (HALF, SINGLE, DOUBLE):
                self.assertTrue(by_table(decimal, shape, way=way) == read_decimal(decimal, shape, way=way)[0])

    def test_too_great_and_too_small(self):
        for way in WAYS:
            great = infinite(HALF) if way in ("nearest", "away", "up") else greatest(HALF)
            self.assertTrue(by_table(Decimal(1, 300), HALF, way=way) == great)
            small = Number(HALF, significand=1 if way == "up" else 0)
            self.assertTrue(by_table(Decimal(1, -300), HALF, way=way) == small)
            small = Number(HALF, sign=1, significand=1 if way == "down" else 0)
            self.assertTrue(by_table(Decimal(1, -300, sign=1), HALF, way=way) == small)

    def test_as_it_stands(self):
        # Of few digits much is open: the width says how great they might be.
        self.assertIsNone(by_table(Decimal(1, -1)))
        self.assertEqual(str(by_table(Decimal(1, -1), bits=128)), "7205759403792794p-56")
        self.assertEqual(str(by_table(Decimal(10**19, -20))), "7205759403792794p-56")
        self.assertEqual(str(by_table(Decimal(1, -1, sign=1), HALF, way="down", bits=128)), "-1639p-14")
        # A number of the shape: it isn't told where only one side of it goes to it.
        self.assertEqual(str(by_table(Decimal(5, -1), HALF, bits=128)), "1024p-11")
        self.assertEqual(str(by_table(Decimal(5, -1), HALF, way="away", bits=128)), "1024p-11")
        for way in ("zero", "up", "down"):
            self.assertIsNone(by_table(Decimal(5, -1), HALF, way=way, bits=128))

    def test_the_defaults_and_names(self):
        decimal = Decimal(12345, -7)
        wanted = by_table(decimal, DOUBLE, way="nearest", bits=64, width=64)
        self.assertTrue(by_table(decimal) == wanted)
        self.assertTrue(by_table(width=64, bits=64, way="nearest", shape=DOUBLE, decimal=decimal) == wanted)
        self.assertEqual(least_bits(decimal), least_bits(decimal, DOUBLE, way="nearest", width=64))
        self.assertEqual(least_bits(decimal), least_bits(width=64, way="nearest", shape=DOUBLE, decimal=decimal))

    def test_decimals_are_as_they_were(self):
        decimal = Decimal(12345, -7, sign=1)
        for call in (opened, by_table, least_bits):
            call(decimal)
            self.assertTrue(decimal == Decimal(12345, -7, sign=1))


class LeastBits(unittest.TestCase):
    def check(self, decimal, shape, way, width):
        told = [by_table(decimal, shape, way=way, bits=bits, width=width) for bits in range(2, 401)]
        wanted = [bits for bits, number in enumerate(told, 2) if number is not None]
        least = least_bits(decimal, shape, way=way, width=width)
        self.assertEqual(least, wanted[0] if wanted else None, (decimal, shape, way, width))
        # With more bits whatever was told is told again.
        self.assertEqual(wanted, list(range(wanted[0], 401)) if wanted else [])
        self.assertTrue(all(number == told[-1] for number in told if number is not None))
        return least

    def test_against_each_count_of_bits(self):
        found = set()
        for shape, way in product((HALF, DOUBLE, (2, -3, 3), (64, -1100, 1000)), WAYS):
            for digits, power in ((1, -1), (5, -1), (3, 1), (123456789, -20), (7, 28), (2**53 + 1, 23), (1, -1200)):
                found.add(self.check(Decimal(digits, power), shape, way, 64))
                found.add(self.check(Decimal(digits, power, sign=1), shape, way, 56))
        self.assertTrue(None in found and 2 in found and len(found) > 20, found)

    def test_none_is_enough(self):
        # 0.5 is a number, and half of what is open lies on each side of it, with whatever bits.
        for way in ("zero", "up", "down"):
            self.assertIsNone(self.check(Decimal(5, -1), HALF, way, 64))
        # A half way between two numbers, by a power below 0.
        for way in ("nearest", "away"):
            self.assertIsNone(self.check(Decimal(20490, -1), HALF, way, 64))

    def test_an_exact_entry_is_enough(self):
        # 10 ** 22 is a number of DOUBLE, told by "up" only where the entry is exact.
        for way in ("zero", "up", "down"):
            self.assertEqual(self.check(Decimal(1, 22), DOUBLE, way, 64), 52)

    def test_at_the_greatest_width(self):
        self.check(Decimal(2**200 - 1, -60), DOUBLE, "nearest", 200)
        self.check(Decimal(1, -60), DOUBLE, "nearest", 200)
        self.check(Decimal(1, -60), DOUBLE, "nearest", 1)

    def test_noughts(self):
        for power in (-1200, 0, 1200):
            self.assertEqual(least_bits(Decimal(0, power, sign=1), HALF), 2)


if __name__ == "__main__":
    unittest.main()
