import decimal
import random
import struct
import unittest
from fractions import Fraction

from digitway.decimals import Decimal
from digitway.numbers import Number, by_rank, by_word, greatest, infinite
from digitway.reading import read
from digitway.shapes import DOUBLE, HALF, SINGLE
from digitway.writing import is_shortest, reads_back, shortest

from tests import by_hand
from tests.things import BOUND_SHAPES, SHAPES, SMALL_SHAPES, edge_numbers

# Doubles that are known to be hard to write.
HARD = (
    "5e-324", "1e-323", "1.5e-323", "2.2250738585072011e-308", "2.2250738585072014e-308", "4.9406564584124654e-324",
    "9007199254740991", "9007199254740992", "9007199254740994", "9.5367431640625e-07", "2.98023223876953125e-8",
    "1.7976931348623157e308", "1.7976931348623155e308", "4.35e-323", "9.409340012568248e18", "1.2345678", "0.1", "0.3",
    "5.684341886080802e-14", "1.2345678901234567e22", "9.007199254740993e15", "1e21", "1e22", "1e23", "9e22",
    "2e23", "8.41e21", "2.0919495182368195e19", "2.6153245263757307e19", "6.11e-308", "8.5e25", "4.0e39",
    "4.7223664828696452e21", "9.5e-309", "1.8531501765868567e21", "-3.347727380279489e33", "4.708356024711512e18",
    "2.989102097996e-312", "4.8726570057e288", "1.46e-322", "7.2057594037927933e16", "123456789012345680",
    "6.929001713869936e236", "1.9430376160308388e16", "-6.9741824662760956e19", "4.3816050601147837e18",
    "149.2", "0.5", "-0.25", "2.225e-308", "3.5844466002796428e298", "7.6e-320",
)


def all_numbers(shape):
    last = infinite(shape).rank()
    return [by_rank(rank, shape) for rank in range(1 - last, last)] + [Number(shape, sign=1)]


def powers_of_two(shape):
    precision, low, high = shape
    least = [Number(shape, significand=2**bit) for bit in range(precision - 1)]
    every = max(1, (high - low) // 60)
    return least + [
        Number(shape, significand=2 ** (precision - 1), exponent=exponent) for exponent in range(low, high + 1, every)
    ]


class Shortest(unittest.TestCase):
    def check(self, number):
        told, wanted = shortest(number), by_hand.shortest(number)
        self.assertTrue(told == wanted, (number.shape(), str(number), str(told), str(wanted)))
        self.assertTrue(is_shortest(number, told) is True)

    def test_all_of_small_shapes(self):
        for shape in SMALL_SHAPES + ((7, -9, 2), (3, -30, 30), (2, -40, 40), (5, -12, -1), (6, 0, 12)):
            for number in all_numbers(shape):
                self.check(number)

    def test_all_of_half(self):
        for rank in range(1, infinite(HALF).rank()):
            self.check(by_rank(rank, HALF))

    def test_at_the_edges_and_beside_them(self):
        for shape in SHAPES:
            for number in edge_numbers(shape):
                self.check(number)
                for other in (number.up(), number.down()):
                    if other.kind() != "infinite":
                        self.check(other)

    def test_powers_of_two(self):
        for shape in (HALF, SINGLE, DOUBLE) + BOUND_SHAPES:
            for number in powers_of_two(shape):
                self.check(number)
                self.check(number.down().negated())

    def test_all_powers_of_two_with_two_bits(self):
        # With so few bits one figure is enough for all, often by more than one decimal.
        for shape in ((2, -1100, 1000), (2, 0, 1000)):
            for exponent in range(shape[1], shape[2] + 1, 3):
                for significand in (2, 3):
                    self.check(Number(shape, significand=significand, exponent=exponent))

    def test_hard_ones(self):
        for text in HARD:
            for shape in (DOUBLE, SINGLE, (64, -1100, 1000)):
                number = read(text, shape)[0]
                if number.kind() != "infinite":
                    self.check(number)

    def test_subnormal_ones(self):
        for shape in (SINGLE, DOUBLE, (64, -1100, 1000), (30, -1100, -1100)):
            for significand in list(range(1, 130)) + [2**bit + 1 for bit in range(8, shape[0] - 1)]:
                self.check(Number(shape, significand=significand, sign=significand % 2))

    def test_of_many_by_chance(self):
        chance = random.Random(29)
        for shape in (SINGLE, DOUBLE, (64, -1100, 1000), (17, -300, 200), (40, -60, 60)):
            last = infinite(shape).rank()
            for _ in range(250):
                self.check(by_rank(chance.randrange(1 - last, last), shape))

    def test_zeros(self):
        for shape in SHAPES:
            self.assertTrue(shortest(Number(shape)) == Decimal(0, 0))
            self.assertTrue(shortest(Number(shape, sign=1)) == Decimal(0, 0, sign=1))

    def test_as_the_machine_writes_them(self):
        chance = random.Random(31)
        words = [chance.getrandbits(64) for _ in range(5000)]
        words += [read(text)[0].word() for text in HARD] + list(range(1, 300))
        for word in words:
            number = by_word(word)
            if number.kind() in ("infinite", "nan"):
                continue
            plain = decimal.Decimal(repr(struct.unpack(">d", word.to_bytes(8, "big"))[0])).normalize()
            sign, figures, power = plain.as_tuple()
            digits = int("".join(map(str, figures)))
            wanted = Decimal(digits, power if digits else 0, sign=sign)
            self.assertTrue(shortest(number) == wanted, (str(number), str(wanted)))


class ByHand(unittest.TestCase):
    def test_told(self):
        for number, text in (
            (Number(significand=1), "5e-324"),
            (Number(significand=1, sign=1), "-5e-324"),
            (greatest(), "17976931348623157e292"),
            (greatest(HALF), "655e2"),
            (greatest(SINGLE), "34028235e31"),
            (Number(HALF, significand=1), "6e-8"),
            (Number(SINGLE, significand=1), "1e-45"),
            (Number(significand=2**52, exponent=-52), "1e0"),
            (Number(significand=2**52, exponent=-96), "5684341886080802e-29"),
            (read("1e23")[0], "1e23"),
            (read("9007199254740993")[0], "9007199254740992e0"),
            (read("1200")[0], "12e2"),
        ):
            self.assertEqual(str(shortest(number)), text)

    def test_of_two_as_near_the_even_one(self):
        # A quarter, from an eighth to three eighths: 0.2 and 0.3 are as near.
        self.assertEqual(str(shortest(Number((2, -2, 0), significand=1))), "2e-1")
        # Three quarters, from five eighths to seven eighths: 0.7 and 0.8.
        self.assertEqual(str(shortest(Number((2, -2, 0), significand=3))), "8e-1")

    def test_one_figure_of_unlike_powers(self):
        for significand, exponent, text in (
            # 8, from 7 to 10: 7e0, 8e0, 9e0 and 1e1.
            (2, 2, "8e0"),
            # 12, from 10 to 14, neither of them with it: none of one figure.
            (3, 2, "12e0"),
            # 16, from 14 to 20, both with it.
            (2, 3, "2e1"),
            # 96, from 80 to 112: 9e1 and, nearer, 1e2.
            (3, 5, "1e2"),
            # 3 / 32, from 5 / 64 to 7 / 64: 8e-2, 1e-1 and, nearer, 9e-2.
            (3, -5, "9e-2"),
        ):
            number = Number((2, -9, 9), significand=significand, exponent=exponent)
            self.assertEqual(str(shortest(number)), text)

    def test_the_nearest_one_may_be_outside_of_the_bounds(self):
        seen = 0
        for shape in SHAPES + ((2, -40, 40), (3, -40, 40), (2, -1100, 1000), (6, -40, 40)):
            for number in powers_of_two(shape):
                told = shortest(number)
                size = abs(by_hand.value(number))
                away = abs(by_hand.value(told)) - size
                mirrored = size - away
                if away > 0 and mirrored < by_hand.bounds(number)[0]:
                    seen += 1
                    self.assertTrue(told == by_hand.shortest(number))
        self.assertGreater(seen, 3)


class IsShortest(unittest.TestCase):
    def test_others_are_not(self):
        for text in ("0.1", "1e23", "123.456", "5e-324", "1200"):
            number = read(text)[0]
            told = shortest(number)
            self.assertTrue(is_shortest(number, told) is True)
            for other in (
                Decimal(told.digits(), told.tens(), sign=1),
                Decimal(told.digits() * 10, told.tens() - 1),
                Decimal(told.digits() + 1, told.tens()),
                Decimal(told.digits(), told.tens() + 1),
                Decimal(0),
            ):
                self.assertTrue(is_shortest(number, other) is False)

    def test_those_that_read_back_all_the_same(self):
        tenth = read("0.1")[0]
        for other in (Decimal(10, -2), Decimal(10000000000000001, -17)):
            self.assertTrue(reads_back(tenth, other))
            self.assertTrue(is_shortest(tenth, other) is False)

    def test_zeros(self):
        self.assertTrue(is_shortest(Number(), Decimal()) is True)
        self.assertTrue(is_shortest(Number(), Decimal(sign=1)) is False)
        self.assertTrue(is_shortest(Number(sign=1), Decimal(sign=1)) is True)
        self.assertTrue(is_shortest(Number(), Decimal(0, 1)) is False)
        self.assertTrue(is_shortest(Number(), Decimal(0, -1)) is False)

    def test_by_names(self):
        number = read("0.1")[0]
        self.assertTrue(is_shortest(number=number, decimal=Decimal(1, -1)) is True)
        self.assertTrue(is_shortest(decimal=Decimal(2, -1), number=number) is False)
        self.assertTrue(shortest(number=number) == Decimal(1, -1))

    def test_what_is_handed_in_stays(self):
        number, told = read("-0.3")[0], Decimal(30, -2, sign=1)
        is_shortest(number, told)
        reads_back(number, told)
        shortest(number)
        self.assertEqual((str(number), str(told)), ("-5404319552844595p-54", "-30e-2"))
        self.assertEqual(Fraction(*told.value()), Fraction(-3, 10))


if __name__ == "__main__":
    unittest.main()
