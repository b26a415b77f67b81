import random
import struct
import unittest
from fractions import Fraction

from digitway.decimals import Decimal
from digitway.numbers import Number, by_rank, by_word, greatest, infinite, nan
from digitway.reading import read, read_decimal, read_text
from digitway.shapes import DOUBLE, HALF, SINGLE

from tests import by_hand
from tests.things import BOUND_SHAPES, SHAPES, SMALL_SHAPES, WAYS

SOME_SHAPES = (HALF, SINGLE, DOUBLE, (2, 0, 0), (3, -2, 1), (2, -1100, -1100)) + BOUND_SHAPES[-4:]

TEXTS = (
    "0", "-0", "+0", "0e9999", "-0e-9999", "1", "-1", "0.1", "-0.1", "1.5", "3", "7.5", "-7.5", "16", "-16", "0.3",
    "1e22", "1e23", "-1e23", "123456789.125", "9007199254740993", "65504", "65519.99", "65520", "-65520", "65536",
    "5e-324", "2.47e-324", "2.48e-324", "-2.47e-324", "2.2250738585072011e-308", "2.2250738585072014e-308",
    "1.7976931348623157e308", "1.7976931348623158e308", "1.7976931348623159e308", "1.8e308", "-1.8e308",
    "3.4028234663852886e38", "3.4028235677973366e38", "1.4e-45", "7e-46", "5.9e-8", "2.98e-8", "6.1e-5",
    "1e9999", "-1e9999", "1e-9999", "-1e-9999", "9" * 1895 + "e9999", "." + "0" * 1800 + "1e-9999", "7e-332",
    "8.2e-332", "1.9e-351", "1e320", "4e320",
)


def half_way_text(rank, shape):
    """The exact figures half way from one number to the next one, and the power."""
    middle = (by_hand.at(rank, shape) + by_hand.at(rank + 1, shape)) / 2
    tens = 0
    while middle.denominator > 1:
        middle *= 10
        tens -= 1
    return str(middle.numerator), tens


class Texts(unittest.TestCase):
    def check(self, text, shape, way):
        number, flags = read(text, shape, way=way)
        wanted, wanted_flags = by_hand.read(text, shape, way)
        self.assertTrue(number == wanted, (text, shape, way, str(number), str(wanted)))
        self.assertEqual(flags, wanted_flags, (text, shape, way))
        self.assertTrue(type(flags) is tuple)

    def test_by_each_way_and_of_unlike_shapes(self):
        for text in TEXTS:
            for shape in SOME_SHAPES:
                for way in WAYS:
                    self.check(text, shape, way)

    def test_half_ways_told_by_many_figures(self):
        for shape in (HALF, SINGLE, DOUBLE, (2, -3, 4), (64, -1100, 1000)):
            last = infinite(shape).rank()
            first = 2 ** (shape[0] - 1)
            for rank in sorted({0, 1, 2, first - 1, first, first + 1, 2 * first - 1, last // 2, last - 2, last - 1}):
                figures, tens = half_way_text(rank, shape)
                for more, less in (("", 0), ("0" * 50, 50), ("0" * 49 + "1", 50)):
                    self.check(f"{figures}{more}e{tens - less}", shape, "nearest")
                    for way in WAYS:
                        self.check(f"-{figures}{more}e{tens - less}", shape, way)
                below = str(int(figures) * 10**50 - 1)
                for way in WAYS:
                    self.check(f"{below}e{tens - 50}", shape, way)

    def test_not_finite(self):
        for shape in SHAPES:
            for way in WAYS:
                for text, wanted in (
                    ("nan", nan(shape)),
                    ("inf", infinite(shape)),
                    ("+inf", infinite(shape)),
                    ("-inf", infinite(shape, sign=1)),
                ):
                    number, flags = read(text, shape, way=way)
                    self.assertTrue(number == wanted)
                    self.assertEqual(flags, ())

    def test_zeros_of_both_signs(self):
        for shape in SHAPES:
            for way in WAYS:
                for text in ("0", "+0", "0.00", ".0", "0e9999", "0e-9999", "0" * 1900):
                    number, flags = read(text, shape, way=way)
                    self.assertTrue(number == Number(shape) and flags == ())
                for text in ("-0", "-0.00", "-.0", "-0e9999", "-0e-9999", "-" + "0" * 1899):
                    number, flags = read(text, shape, way=way)
                    self.assertTrue(number == Number(shape, sign=1) and flags == ())

    def test_what_is_rounded_to_a_zero(self):
        for shape in SHAPES:
            for way in WAYS:
                number, flags = read("1e-9999", shape, way=way)
                self.assertTrue(number == (by_rank(1, shape) if way == "up" else Number(shape)))
                self.assertEqual(flags, ("inexact", "underflow"))
                number, flags = read("-1e-9999", shape, way=way)
                self.assertTrue(number == (by_rank(-1, shape) if way == "down" else Number(shape, sign=1)))
                self.assertEqual(flags, ("inexact", "underflow"))

    def test_what_overflows(self):
        for shape in SHAPES:
            for way in WAYS:
                number, flags = read("1e9999", shape, way=way)
                self.assertTrue(number == (greatest(shape) if way in ("zero", "down") else infinite(shape)))
                self.assertEqual(flags, ("inexact", "overflow"))
                number, flags = read("-1e9999", shape, way=way)
                wanted = greatest if way in ("zero", "up") else infinite
                self.assertTrue(number == wanted(shape, sign=1))
                self.assertEqual(flags, ("inexact", "overflow"))

    def test_by_hand(self):
        for text, shape, told, flags in (
            ("0.1", DOUBLE, "7205759403792794p-56", ("inexact",)),
            ("-0.1", SINGLE, "-13421773p-27", ("inexact",)),
            ("0.1", HALF, "1638p-14", ("inexact",)),
            ("0.5", HALF, "1024p-11", ()),
            ("65519.99", HALF, "2047p5", ("inexact",)),
            ("65520", HALF, "inf", ("inexact", "overflow")),
            ("5e-324", DOUBLE, "1p-1074", ("inexact", "underflow")),
            ("9007199254740993", DOUBLE, "4503599627370496p1", ("inexact",)),
            ("9007199254740993." + "0" * 1000 + "1", DOUBLE, "4503599627370497p1", ("inexact",)),
        ):
            number, got = read(text, shape)
            self.assertEqual((str(number), got), (told, flags), text)

    def test_as_the_machine_reads_them(self):
        chance = random.Random(13)
        for _ in range(3000):
            figures = str(chance.randrange(10 ** chance.randrange(1, 40)))
            text = f"{figures}e{chance.randrange(-370, 340)}"
            self.assertTrue(read(text)[0] == by_word(int.from_bytes(struct.pack(">d", float(text)), "big")), text)

    def test_small_shapes_at_every_place(self):
        for shape in SMALL_SHAPES[:5]:
            for digits in range(0, 80):
                for tens in (-3, -2, -1, 0, 1):
                    for way in WAYS:
                        self.check(f"{digits}e{tens}", shape, way)
                        self.check(f"-{digits}e{tens}", shape, way)


class Decimals(unittest.TestCase):
    def test_as_their_texts(self):
        for text in TEXTS:
            for shape in (HALF, DOUBLE, (2, 0, 0)):
                for way in WAYS:
                    one = read(text, shape, way=way)
                    other = read_decimal(read_text(text), shape, way=way)
                    self.assertTrue(one[0] == other[0])
                    self.assertEqual(one[1], other[1])

    def test_greatest_digits_and_powers(self):
        for digits in (1, 5, 10**2000 - 1, 10**1999):
            for power in (-20000, -19999, -2300, -2000, 0, 300, 19999, 20000):
                for sign in (0, 1):
                    decimal = Decimal(digits, power, sign=sign)
                    for shape in (DOUBLE, (64, -1100, 1000), (2, 0, 0)):
                        for way in WAYS:
                            number, flags = read_decimal(decimal, shape, way=way)
                            wanted = by_hand.rounded(by_hand.value(decimal), shape, way)
                            self.assertTrue(number == wanted[0])
                            self.assertEqual(flags, wanted[1])

    def test_zeros(self):
        for shape in SHAPES:
            for sign in (0, 1):
                for power in (-20000, 0, 20000):
                    for way in WAYS:
                        number, flags = read_decimal(Decimal(0, power, sign=sign), shape, way=way)
                        self.assertTrue(number == Number(shape, sign=sign) and flags == ())

    def test_the_decimal_stays(self):
        decimal = Decimal(1250, -4, sign=1)
        read_decimal(decimal)
        read_decimal(decimal, HALF, way="up")
        self.assertEqual(str(decimal), "-1250e-4")


class Arguments(unittest.TestCase):
    def test_read(self):
        for told in (read("0.3"), read(text="0.3"), read("0.3", DOUBLE), read("0.3", shape=DOUBLE, way="nearest")):
            self.assertEqual((str(told[0]), told[1]), ("5404319552844595p-54", ("inexact",)))
            self.assertTrue(type(told) is tuple and len(told) == 2)
        self.assertEqual(str(read(way="up", shape=HALF, text="0.3")[0]), "1229p-12")
        with self.assertRaises(TypeError):
            read("0.3", DOUBLE, "up")

    def test_read_decimal(self):
        three = Decimal(3, -1)
        for told in (read_decimal(three), read_decimal(decimal=three), read_decimal(three, DOUBLE),
                     read_decimal(three, shape=DOUBLE, way="nearest")):
            self.assertEqual((str(told[0]), told[1]), ("5404319552844595p-54", ("inexact",)))
            self.assertTrue(type(told) is tuple and len(told) == 2)
        self.assertEqual(str(read_decimal(way="up", shape=HALF, decimal=three)[0]), "1229p-12")
        with self.assertRaises(TypeError):
            read_decimal(three, DOUBLE, "up")

    def test_values_by_fractions(self):
        for text in ("0.5", "-12.25", "1e3", "4e-2"):
            told = by_hand.value(read_text(text))
            self.assertEqual(told, Fraction(text))


if __name__ == "__main__":
    unittest.main()
