import random
import struct
import unittest

from digitway.decimals import Decimal
from digitway.numbers import Number, by_rank, by_word, greatest, infinite, nan
from digitway.reading import read, read_text
from digitway.shapes import DOUBLE, HALF, SINGLE
from digitway.writing import shortest, show

from tests.things import SHAPES, SMALL_SHAPES, edge_numbers

# Each is shown as it is written here.
SHOWN = (
    "0", "-0", "1", "-1", "10", "12.5", "-12.5", "1200", "0.1", "0.5", "-0.25", "1.5", "9.5", "99.75", "123456.789",
    # Around the least and the most point that have no power.
    "0.00001", "0.00012", "0.000012", "-0.000012", "0.00009", "1.2e-6", "1e-6", "9e-6", "1.25e-7", "-1.25e-7", "1e-7",
    "0.012", "0.0012", "0.12", "1.2",
    "1000000000000000", "1200000000000000", "9007199254740992", "9999999999999998", "123456789012345.6",
    "1234567890123456", "1e16", "1.2e16", "1.2345678901234568e16", "-1e16", "1e17",
    "1e22", "1e23", "1.5e300", "5e-324", "1.7976931348623157e308", "2.2250738585072014e-308",
    "0.00001234567890123456", "1.234567890123456e-6",
)


def by_point(number):
    """[17], word by word."""
    told = shortest(number)
    ahead = "-" if number.sign() else ""
    if number.kind() == "zero":
        return ahead + "0"
    figures = str(told.digits())
    point = len(figures) + told.tens()
    if 1 <= point <= 16:
        left = figures[point:]
        noughts = "0" * (point - len(figures))
        return ahead + figures[:point] + noughts + ("." + left if left else "")
    if -4 <= point <= 0:
        return ahead + "0." + "0" * (0 - point) + figures
    others = figures[1:]
    return ahead + figures[0] + ("." + others if others else "") + "e" + str(point - 1)


class Shown(unittest.TestCase):
    def test_by_hand(self):
        for text in SHOWN:
            self.assertEqual(show(read(text)[0]), text)

    def test_of_other_shapes(self):
        for number, text in (
            (greatest(HALF), "65500"),
            (greatest(HALF, sign=1), "-65500"),
            (Number(HALF, significand=1), "6e-8"),
            (greatest(SINGLE), "3.4028235e38"),
            (Number(SINGLE, significand=1), "1e-45"),
            (read("0.1", HALF)[0], "0.1"),
            (read("0.1", SINGLE)[0], "0.1"),
            (read("16777216", SINGLE)[0], "16777216"),
            (Number((2, 0, 0), significand=3), "3"),
            (Number((64, 0, 0), significand=2**64 - 1), "1.8446744073709551615e19"),
            (Number((64, -1100, 1000), significand=1), "7e-332"),
        ):
            self.assertEqual(show(number), text)

    def test_not_finite(self):
        for shape in SHAPES:
            self.assertEqual(show(nan(shape)), "nan")
            self.assertEqual(show(infinite(shape)), "inf")
            self.assertEqual(show(infinite(shape, sign=1)), "-inf")

    def test_zeros(self):
        for shape in SHAPES:
            self.assertEqual(show(Number(shape)), "0")
            self.assertEqual(show(Number(shape, sign=1)), "-0")

    def test_at_each_change_of_its_form(self):
        for figures in ("1", "12", "123", "1234567", "123456789012345"):
            for point in range(-9, 22):
                for sign in ("", "-"):
                    number = read(f"{sign}{figures}e{point - len(figures)}")[0]
                    self.assertEqual(len(shortest(number)), len(figures))
                    self.assertEqual(shortest(number).tens() + len(figures), point)
                    self.assertEqual(show(number), by_point(number))
                    self.assertEqual("e" in show(number), not -4 <= point <= 16)
                    self.assertEqual(show(number).startswith(sign + "0."), -4 <= point <= 0)

    def test_at_the_edges_of_each_shape(self):
        for shape in SHAPES:
            for number in edge_numbers(shape):
                self.check(number)

    def test_all_of_small_shapes(self):
        for shape in SMALL_SHAPES + ((3, -40, 70),):
            last = infinite(shape).rank()
            for rank in range(1 - last, last):
                self.check(by_rank(rank, shape))

    def check(self, number):
        text = show(number)
        self.assertEqual(text, by_point(number))
        again, flags = read(text, number.shape())
        self.assertTrue(again == number, text)
        self.assertTrue(read_text(text).plain() == shortest(number))

    def test_as_the_machine_writes_them(self):
        # Python has the point from -3 to 16 without a power, and writes powers by two figures at least.
        chance = random.Random(37)
        for _ in range(2000):
            plain = chance.randrange(-(10**17), 10**17) / 10 ** chance.randrange(1, 20)
            if not 1e-4 <= abs(plain) < 1e16:
                continue
            number = by_word(int.from_bytes(struct.pack(">d", plain), "big"))
            self.assertEqual(show(number), repr(plain).removesuffix(".0"))

    def test_by_name_and_unchanged(self):
        number = read("-12.5")[0]
        self.assertEqual(show(number=number), "-12.5")
        self.assertTrue(number == read("-12.5")[0])
        self.assertTrue(shortest(number) == Decimal(125, -1, sign=1))
        self.assertEqual(number.shape(), DOUBLE)


if __name__ == "__main__":
    unittest.main()
