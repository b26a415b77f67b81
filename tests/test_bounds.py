import unittest
from fractions import Fraction

from digitway.decimals import Decimal
from digitway.numbers import Number, by_rank, greatest, infinite
from digitway.shapes import DOUBLE, HALF, SINGLE
from digitway.writing import bounds, reads_back

from tests import by_hand
from tests.things import SHAPES, SMALL_SHAPES, edge_numbers

MORE = 10**40


def exact(fraction, sign=0):
    """The decimal of a fraction whose figures end."""
    tens = 0
    while fraction.denominator > 1:
        fraction *= 10
        tens -= 1
    return Decimal(fraction.numerator, tens, sign=sign)


def beside(decimal, step):
    """The decimal next to it with forty figures more; of 0 one that is nearer than any number."""
    if decimal.digits() == 0:
        return Decimal(step, -20000, sign=decimal.sign())
    return Decimal(decimal.digits() * MORE + step, decimal.tens() - 40, sign=decimal.sign())


class Bounds(unittest.TestCase):
    def check(self, number):
        least, most, closed = bounds(number)
        wanted_least, wanted_most, wanted_closed = by_hand.bounds(number)
        self.assertEqual(least, by_hand.pair(wanted_least))
        self.assertEqual(most, by_hand.pair(wanted_most))
        self.assertTrue(closed is wanted_closed)

    def test_at_the_edges_of_each_shape(self):
        for shape in SHAPES:
            for number in edge_numbers(shape):
                self.check(number)

    def test_all_of_small_shapes(self):
        for shape in SMALL_SHAPES:
            last = infinite(shape).rank()
            for rank in range(1 - last, last):
                self.check(by_rank(rank, shape))

    def test_by_hand(self):
        for number, least, most, closed in (
            (Number(HALF), (0, 1), (1, 2**25), True),
            (Number(HALF, sign=1), (0, 1), (1, 2**25), True),
            (Number(HALF, significand=1), (1, 2**25), (3, 2**25), False),
            (Number(HALF, significand=2, sign=1), (3, 2**25), (5, 2**25), True),
            (Number(HALF, significand=1024), (2047, 2**25), (2049, 2**25), True),
            (Number(HALF, significand=1024, exponent=-10), (4095, 4096), (2049, 2048), True),
            (Number(HALF, significand=1025, exponent=-10), (2049, 2048), (2051, 2048), False),
            (greatest(HALF), (65488, 1), (65520, 1), False),
            (greatest(HALF, sign=1), (65488, 1), (65520, 1), False),
            (Number((2, 0, 4)), (0, 1), (1, 2), True),
            (Number((2, 0, 4), significand=2, exponent=1), (7, 2), (5, 1), True),
            (Number((2, 0, 4), significand=2, exponent=3), (14, 1), (20, 1), True),
            (greatest((2, 0, 0)), (5, 2), (7, 2), False),
        ):
            told = bounds(number)
            self.assertEqual(told, (least, most, closed), str(number))
            self.assertTrue(told[2] is closed)
            self.assertTrue(type(told) is tuple and type(told[0]) is tuple and type(told[1]) is tuple)

    def test_by_name(self):
        self.assertEqual(bounds(number=greatest((2, 0, 0))), ((5, 2), (7, 2), False))


class ReadsBack(unittest.TestCase):
    def check_at_bounds(self, number):
        least, most, closed = by_hand.bounds(number)
        for sign in (0, 1):
            same = sign == number.sign()
            for bound, inward in ((least, 1), (most, -1)):
                decimal = exact(bound, sign)
                self.assertTrue(reads_back(number, decimal) is (same and closed), (str(number), str(decimal)))
                self.assertTrue(reads_back(number, beside(decimal, inward)) is same, str(number))
                if bound > 0:
                    self.assertTrue(reads_back(number, beside(decimal, -inward)) is False, str(number))
            self.assertTrue(reads_back(number, exact(abs(by_hand.value(number)), sign)) is same)

    def test_at_the_bounds_and_beside_them(self):
        for shape in SHAPES:
            for number in edge_numbers(shape):
                self.check_at_bounds(number)

    def test_all_of_small_shapes(self):
        for shape in SMALL_SHAPES[:6]:
            last = infinite(shape).rank()
            for rank in range(1 - last, last):
                self.check_at_bounds(by_rank(rank, shape))

    def test_every_decimal_of_two_figures_in_small_shapes(self):
        for shape in SMALL_SHAPES[:4]:
            last = infinite(shape).rank()
            numbers = [by_rank(rank, shape) for rank in range(1 - last, last)] + [Number(shape, sign=1)]
            for digits in range(100):
                for power in (-2, -1, 0, 1):
                    for sign in (0, 1):
                        decimal = Decimal(digits, power, sign=sign)
                        read, flags = by_hand.rounded(by_hand.value(decimal), shape, "nearest", sign)
                        for number in numbers:
                            self.assertTrue(reads_back(number, decimal) is (read == number))

    def test_zeros(self):
        for shape in SHAPES:
            for sign in (0, 1):
                zero = Number(shape, sign=sign)
                self.assertTrue(reads_back(zero, Decimal(0, 5, sign=sign)) is True)
                self.assertTrue(reads_back(zero, Decimal(0, 5, sign=1 - sign)) is False)
                self.assertTrue(reads_back(zero, Decimal(1, -20000, sign=sign)) is True)
                self.assertTrue(reads_back(zero, Decimal(1, -20000, sign=1 - sign)) is False)

    def test_far_out(self):
        for shape in SHAPES:
            for number in (greatest(shape), Number(shape, significand=1), Number(shape)):
                self.assertTrue(reads_back(number, Decimal(1, 20000)) is False)
                self.assertTrue(reads_back(number, Decimal(10**2000 - 1, 20000)) is False)

    def test_by_hand(self):
        tenth = Number(DOUBLE, significand=7205759403792794, exponent=-56)
        self.assertTrue(reads_back(tenth, Decimal(1, -1)))
        self.assertTrue(reads_back(tenth, Decimal(100, -3)))
        self.assertTrue(reads_back(number=tenth, decimal=Decimal(10000000000000001, -17)))
        self.assertFalse(reads_back(decimal=Decimal(10000000000000003, -17), number=tenth))
        self.assertFalse(reads_back(tenth, Decimal(1, -1, sign=1)))
        self.assertFalse(reads_back(Number(SINGLE, significand=13421773, exponent=-27), Decimal(2, -1)))
        self.assertEqual(exact(Fraction(-1, 8) * -1), Decimal(125, -3))


if __name__ == "__main__":
    unittest.main()
