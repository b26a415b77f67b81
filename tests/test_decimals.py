import unittest
from fractions import Fraction
from unittest.mock import ANY

from digitway.decimals import Decimal
from digitway.numbers import Number

from tests.things import NOT_DECIMALS, Agreeable, refused

MOST = 10**2000 - 1

DIGITS = (
    0, 1, 2, 4, 5, 7, 8, 9, 10, 15, 20, 25, 50, 99, 100, 125, 1000, 1024, 3125, 12500, 2**60, 5**60, 10**60,
    2**30 * 5**40, 2**40 * 5**30, 10**1999, MOST, MOST - 9, 2**6643, 5**2861, 3 * 10**500,
)

POWERS = (-20000, -19999, -500, -61, -60, -41, -40, -30, -3, -2, -1, 0, 1, 2, 3, 40, 500, 19999, 20000)


def ends_in_noughts(digits):
    many = 0
    while digits % 10 == 0:
        digits //= 10
        many += 1
    return many


class Parts(unittest.TestCase):
    def test_what_it_has(self):
        for digits in DIGITS:
            for power in POWERS:
                for sign in (0, 1):
                    decimal = Decimal(digits, power, sign=sign)
                    self.assertEqual((decimal.tens(), decimal.sign()), (power, sign))
                    self.assertTrue(decimal.digits() == digits)

    def test_defaults_and_names(self):
        decimal = Decimal()
        self.assertEqual((decimal.digits(), decimal.tens(), decimal.sign()), (0, 0, 0))
        self.assertEqual(str(Decimal(5)), "5e0")
        self.assertEqual(str(Decimal(power=3, digits=5)), "5e3")
        self.assertEqual(str(Decimal(sign=1, power=-3, digits=5)), "-5e-3")
        self.assertEqual(str(Decimal(5, power=2)), "5e2")
        self.assertEqual(str(Decimal(sign=1)), "-0e0")
        with self.assertRaises(TypeError):
            Decimal(5, 3, 1)

    def test_bounds(self):
        Decimal(MOST, 20000, sign=1)
        Decimal(0, -20000)
        for digits in (-1, MOST + 1, MOST + 2, -MOST, 10**3999, -(10**3999)):
            refused(self, "digits", Decimal, digits)
            refused(self, "digits", Decimal, digits, 5, sign=1)
        for power in (-20001, 20001, 10**3999, -(10**3999)):
            refused(self, "power", Decimal, 0, power)
            refused(self, "power", Decimal, MOST, power)
        for sign in (-1, 2, 10**3999):
            refused(self, "sign", Decimal, 1, 1, sign=sign)


class Value(unittest.TestCase):
    def test_in_lowest_terms(self):
        for digits in DIGITS:
            for power in POWERS:
                wanted = digits * Fraction(10) ** power
                for sign in (0, 1):
                    # Not assertEqual: Python would not show numbers of so many figures.
                    above, below = Decimal(digits, power, sign=sign).value()
                    self.assertTrue(above == (-wanted.numerator if sign else wanted.numerator))
                    self.assertTrue(below == wanted.denominator)

    def test_by_hand(self):
        for decimal, wanted in (
            (Decimal(125, -3, sign=1), (-1, 8)),
            (Decimal(125, -2), (5, 4)),
            (Decimal(125, -4), (1, 80)),
            (Decimal(16, -3), (2, 125)),
            (Decimal(1200, -2), (12, 1)),
            (Decimal(1200, -4), (3, 25)),
            (Decimal(7, 2, sign=1), (-700, 1)),
            (Decimal(0, 20000), (0, 1)),
            (Decimal(0, -20000, sign=1), (0, 1)),
            (Decimal(3, -1), (3, 10)),
        ):
            self.assertEqual(decimal.value(), wanted)
            self.assertTrue(type(decimal.value()) is tuple)


class Plain(unittest.TestCase):
    def test_of_each(self):
        for digits in DIGITS:
            for power in POWERS:
                for sign in (0, 1):
                    decimal = Decimal(digits, power, sign=sign)
                    if digits == 0:
                        self.assertTrue(decimal.plain() == Decimal(0, 0, sign=sign))
                        continue
                    many = ends_in_noughts(digits)
                    if power + many > 20000:
                        refused(self, "power", decimal.plain)
                        continue
                    self.assertTrue(decimal.plain() == Decimal(digits // 10**many, power + many, sign=sign))

    def test_where_the_power_would_be_beyond(self):
        self.assertTrue(Decimal(10, 19999).plain() == Decimal(1, 20000))
        self.assertTrue(Decimal(3 * 10**1999, 18001).plain() == Decimal(3, 20000))
        for decimal in (Decimal(10, 20000), Decimal(100, 19999), Decimal(3 * 10**1999, 18002), Decimal(10**1999, 20000)):
            refused(self, "power", decimal.plain)
        self.assertTrue(Decimal(0, 20000, sign=1).plain() == Decimal(0, 0, sign=1))

    def test_plain_ones_are_their_own(self):
        for decimal in (Decimal(), Decimal(sign=1), Decimal(1, 20000), Decimal(MOST, -20000), Decimal(105, 3, sign=1)):
            self.assertTrue(decimal.plain() == decimal)

    def test_it_stays_as_it_was(self):
        decimal = Decimal(1200, -1, sign=1)
        self.assertEqual(str(decimal.plain()), "-12e1")
        self.assertEqual(str(decimal), "-1200e-1")


class Equal(unittest.TestCase):
    def test_each_two(self):
        keys = [
            (digits, power, sign)
            for digits in (0, 1, 10, 100, 5, MOST)
            for power in (-20000, -2, -1, 0, 1, 2, 20000)
            for sign in (0, 1)
        ]
        made = [(key, Decimal(key[0], key[1], sign=key[2])) for key in keys]
        for key, one in made:
            for other_key, other in made:
                self.assertTrue((one == other) is (key == other_key))
                self.assertTrue((one != other) is (key != other_key))
            self.assertTrue(one == Decimal(key[0], key[1], sign=key[2]))

    def test_unlike_whatever_is_no_decimal(self):
        for decimal in (Decimal(), Decimal(1), Decimal(125, -3, sign=1)):
            for name, thing in NOT_DECIMALS.items():
                with self.subTest(decimal=str(decimal), thing=name):
                    self.assertTrue((decimal == thing) is False)
                    self.assertTrue((decimal != thing) is True)
            for thing in (ANY, Agreeable(), str(decimal), repr(decimal), decimal.digits(), decimal.value(), Number()):
                self.assertTrue((decimal == thing) is False)
                self.assertTrue((decimal != thing) is True)


class Texts(unittest.TestCase):
    def test_len(self):
        for digits in DIGITS:
            many = 1
            while 10**many <= digits:
                many += 1
            for power in (-20000, 0, 20000):
                for sign in (0, 1):
                    self.assertEqual(len(Decimal(digits, power, sign=sign)), many)
        self.assertEqual(len(Decimal(0)), 1)
        self.assertEqual(len(Decimal(MOST)), 2000)

    def test_str_and_repr(self):
        for digits in DIGITS:
            for power in POWERS:
                self.assertEqual(str(Decimal(digits, power)), str(digits) + "e" + str(power))
                self.assertEqual(str(Decimal(digits, power, sign=1)), "-" + str(digits) + "e" + str(power))
                self.assertEqual(repr(Decimal(digits, power)), "Decimal(" + str(digits) + "e" + str(power) + ")")
        self.assertEqual(str(Decimal(125, -3, sign=1)), "-125e-3")
        self.assertEqual(repr(Decimal(125, -3, sign=1)), "Decimal(-125e-3)")
        self.assertEqual(str(Decimal(120, 7)), "120e7")
        self.assertEqual((str(Decimal()), repr(Decimal(sign=1))), ("0e0", "Decimal(-0e0)"))


class Unchanged(unittest.TestCase):
    def test_nothing_asked_changes_a_decimal(self):
        decimal = Decimal(1250, -7, sign=1)
        for ask in (decimal.value, decimal.plain, decimal.digits, decimal.tens, decimal.sign):
            ask()
        refused(self, "power", Decimal(10, 20000).plain)
        self.assertEqual((str(decimal), len(decimal), decimal.value()), ("-1250e-7", 4, (-1, 8000)))


if __name__ == "__main__":
    unittest.main()
