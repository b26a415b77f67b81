import unittest
from fractions import Fraction

from digitway.numbers import Number, by_rank, greatest, infinite
from digitway.rounding import rounded
from digitway.shapes import DOUBLE, HALF, SINGLE

from tests import by_hand
from tests.things import BOUND_SHAPES, SHAPES, SMALL_SHAPES, WAYS, edge_parts, refused

PART = Fraction(1, 10**300)


def told(fraction, shape, way, **named):
    return rounded(fraction.numerator, fraction.denominator, shape=shape, way=way, **named)


def around(below, above):
    """Points from a value on to the next one: at it, in between, and beside these by ever so little."""
    gap = above - below
    for part in (0, Fraction(1, 4), Fraction(1, 2), Fraction(3, 4)):
        for beside in (0, PART, -PART):
            yield below + gap * (part + beside)


class Rounded(unittest.TestCase):
    def check(self, fraction, shape, way):
        number, flags = told(fraction, shape, way)
        wanted, wanted_flags = by_hand.rounded(fraction, shape, way)
        self.assertTrue(number == wanted, (str(number), str(wanted), shape, way))
        self.assertEqual(flags, wanted_flags, (shape, way))
        self.assertTrue(type(flags) is tuple)

    def check_both_signs(self, fraction, shape):
        for way in WAYS:
            self.check(fraction, shape, way)
            self.check(-fraction, shape, way)

    def test_around_the_edges_of_each_shape(self):
        for shape in SHAPES:
            for significand, exponent in edge_parts(shape):
                rank = Number(shape, significand=significand, exponent=exponent).rank()
                for fraction in around(by_hand.at(rank, shape), by_hand.at(rank + 1, shape)):
                    self.check_both_signs(fraction, shape)

    def test_every_gap_of_small_shapes(self):
        for shape in SMALL_SHAPES:
            for rank in range(infinite(shape).rank()):
                for fraction in around(by_hand.at(rank, shape), by_hand.at(rank + 1, shape)):
                    self.check_both_signs(fraction, shape)

    def test_below_half_the_least(self):
        for shape in SHAPES:
            least = by_hand.at(1, shape)
            for fraction in (least * PART, least / 4, least / 2 - least * PART, least / 2, least / 2 + least * PART):
                self.check_both_signs(fraction, shape)
            self.check_both_signs(Fraction(1, 10**3000), shape)

    def test_at_and_beyond_the_greatest(self):
        for shape in SHAPES:
            end, last = by_hand.end(shape), by_hand.value(greatest(shape))
            for fraction in (last, end, end * 2, end + end * PART, end * (2 - PART), end * 10**100):
                self.check_both_signs(fraction, shape)
            self.check_both_signs(Fraction(10**3000 - 1), shape)

    def test_not_in_lowest_terms(self):
        for shape in (HALF, DOUBLE, (2, 0, 0), (64, -1100, 1000)):
            for numerator, denominator in ((1, 3), (-1, 3), (7, 2), (-7, 2), (0, 1), (100001, 1), (5, 2**30)):
                for way in WAYS:
                    wanted = rounded(numerator, denominator, shape=shape, way=way)
                    for more in (2, 3, 10**7, 2**5000):
                        number, flags = rounded(numerator * more, denominator * more, shape=shape, way=way)
                        self.assertTrue(number == wanted[0])
                        self.assertEqual(flags, wanted[1])

    def test_numbers_are_rounded_to_themselves(self):
        for shape in SHAPES:
            for significand, exponent in edge_parts(shape):
                for sign in (0, 1):
                    number = Number(shape, sign=sign, significand=significand, exponent=exponent)
                    for way in WAYS:
                        again, flags = told(by_hand.value(number), shape, way, sign=sign)
                        self.assertTrue(again == number)
                        self.assertEqual(flags, ())


class ByHand(unittest.TestCase):
    """Cases told by the words of [8] and [9] alone."""

    def check(self, fraction, shape, texts, flags):
        for way, text in zip(WAYS, texts):
            number, got = told(Fraction(fraction), shape, way)
            self.assertEqual((str(number), got), (text, flags), (fraction, way))

    def test_within(self):
        shape = (3, -2, 1)
        self.check("9/8", shape, ["4p-2", "5p-2", "4p-2", "5p-2", "4p-2"], ("inexact",))
        self.check("-9/8", shape, ["-4p-2", "-5p-2", "-4p-2", "-4p-2", "-5p-2"], ("inexact",))
        self.check("11/8", shape, ["6p-2", "6p-2", "5p-2", "6p-2", "5p-2"], ("inexact",))
        self.check("5/4", shape, ["5p-2"] * 5, ())

    def test_where_the_exponent_changes(self):
        shape = (3, -2, 1)
        self.check("15/8", shape, ["4p-1", "4p-1", "7p-2", "4p-1", "7p-2"], ("inexact",))
        self.check("-15/8", shape, ["-4p-1", "-4p-1", "-7p-2", "-7p-2", "-4p-1"], ("inexact",))
        self.check("2", shape, ["4p-1"] * 5, ())

    def test_underflow(self):
        shape = (3, -2, 1)
        self.check("7/8", shape, ["4p-2", "4p-2", "3p-2", "4p-2", "3p-2"], ("inexact", "underflow"))
        self.check("1/8", shape, ["0p-2", "1p-2", "0p-2", "1p-2", "0p-2"], ("inexact", "underflow"))
        self.check("-1/8", shape, ["-0p-2", "-1p-2", "-0p-2", "-0p-2", "-1p-2"], ("inexact", "underflow"))
        self.check("1/9", shape, ["0p-2", "0p-2", "0p-2", "1p-2", "0p-2"], ("inexact", "underflow"))
        self.check("-1/9", shape, ["-0p-2", "-0p-2", "-0p-2", "-0p-2", "-1p-2"], ("inexact", "underflow"))
        self.check("3/4", shape, ["3p-2"] * 5, ())
        self.check("1", shape, ["4p-2"] * 5, ())

    def test_overflow(self):
        shape = (3, -2, 1)
        both = ("inexact", "overflow")
        self.check("14", shape, ["7p1"] * 5, ())
        self.check("16", shape, ["inf", "inf", "7p1", "inf", "7p1"], both)
        self.check("-16", shape, ["-inf", "-inf", "-7p1", "-7p1", "-inf"], both)
        self.check(str(10**90), shape, ["inf", "inf", "7p1", "inf", "7p1"], both)

    def test_between_the_greatest_and_the_next_that_would_be(self):
        shape = (3, -2, 1)
        one, both = ("inexact",), ("inexact", "overflow")
        for fraction, wanted in (
            ("29/2", [("7p1", one), ("7p1", one), ("7p1", one), ("inf", both), ("7p1", one)]),
            ("15", [("inf", both), ("inf", both), ("7p1", one), ("inf", both), ("7p1", one)]),
            ("-15", [("-inf", both), ("-inf", both), ("-7p1", one), ("-7p1", one), ("-inf", both)]),
            ("-29/2", [("-7p1", one), ("-7p1", one), ("-7p1", one), ("-7p1", one), ("-inf", both)]),
        ):
            for way, (text, flags) in zip(WAYS, wanted):
                number, got = told(Fraction(fraction), shape, way)
                self.assertEqual((str(number), got), (text, flags), (fraction, way))

    def test_double(self):
        self.assertEqual(str(rounded(1, 10)[0]), "7205759403792794p-56")
        self.assertEqual(rounded(1, 10)[1], ("inexact",))
        self.assertEqual(str(rounded(2**53 + 1)[0]), "4503599627370496p1")
        self.assertEqual(str(rounded(2**53 + 1, way="up")[0]), "4503599627370497p1")
        self.assertEqual(str(rounded(1, 3, shape=SINGLE)[0]), "11184811p-25")
        self.assertEqual(str(rounded(65519, shape=HALF)[0]), "2047p5")
        self.assertEqual(str(rounded(65520, shape=HALF)[0]), "inf")

    def test_as_the_machine_has_them(self):
        for above in (1, 2, 3, 10**15 + 1, 10**17 + 3, 123456789):
            for below in (1, 3, 7, 10, 10**22 + 9, 3**40):
                number, flags = rounded(above, below)
                self.assertEqual(by_hand.value(number), Fraction(above / below))
                self.assertEqual(flags, () if Fraction(above / below) == Fraction(above, below) else ("inexact",))


class Zeros(unittest.TestCase):
    def test_of_0(self):
        for shape in SHAPES:
            for way in WAYS:
                for sign in (0, 1):
                    for denominator in (1, 7, 10**3000):
                        number, flags = rounded(0, denominator, shape=shape, way=way, sign=sign)
                        self.assertTrue(number == Number(shape, sign=sign))
                        self.assertEqual((number.sign(), flags), (sign, ()))

    def test_the_told_sign_is_that_of_0_alone(self):
        for shape in SHAPES:
            least = by_hand.at(1, shape)
            for way in WAYS:
                for fraction in (least / 8, -least / 8, least, -least, 2 * by_hand.end(shape), -2 * by_hand.end(shape)):
                    one, other = told(fraction, shape, way, sign=0), told(fraction, shape, way, sign=1)
                    self.assertTrue(one[0] == other[0])
                    self.assertEqual(one[1], other[1])
                    self.assertEqual(one[0].sign(), 1 if fraction < 0 else 0)

    def test_what_is_rounded_to_a_zero_has_its_own_sign(self):
        for shape in SHAPES:
            tiny = by_hand.at(1, shape) / 8
            for way in ("nearest", "away", "zero", "down"):
                self.assertTrue(told(tiny, shape, way)[0] == Number(shape))
            for way in ("nearest", "away", "zero", "up"):
                self.assertTrue(told(-tiny, shape, way)[0] == Number(shape, sign=1))
            self.assertTrue(told(tiny, shape, "up")[0] == by_rank(1, shape))
            self.assertTrue(told(-tiny, shape, "down")[0] == by_rank(-1, shape))


class Arguments(unittest.TestCase):
    def test_defaults(self):
        number, flags = rounded(3)
        self.assertTrue(number == Number(DOUBLE, significand=3 * 2**51, exponent=-51))
        self.assertEqual(flags, ())
        self.assertTrue(rounded(0)[0] == Number(DOUBLE))
        self.assertTrue(type(rounded(3)) is tuple and len(rounded(3)) == 2)

    def test_by_names(self):
        number, flags = rounded(sign=1, way="down", shape=HALF, denominator=3, numerator=1)
        self.assertEqual((str(number), flags), ("1365p-12", ("inexact",)))
        self.assertTrue(rounded(numerator=0, sign=1)[0] == Number(sign=1))

    def test_behind_the_star_by_name_alone(self):
        with self.assertRaises(TypeError):
            rounded(1, 3, HALF)

    def test_at_the_bounds(self):
        most = 10**3000
        for shape in (DOUBLE,) + BOUND_SHAPES:
            for numerator, denominator in ((most - 1, 1), (1 - most, 1), (1, most), (-1, most), (most - 1, most)):
                for way in WAYS:
                    number, flags = rounded(numerator, denominator, shape=shape, way=way)
                    wanted = by_hand.rounded(Fraction(numerator, denominator), shape, way)
                    self.assertTrue(number == wanted[0])
                    self.assertEqual(flags, wanted[1])

    def test_beyond_the_bounds(self):
        most = 10**3000
        for numerator in (most, -most, 10**3999, -(10**3999)):
            refused(self, "numerator", rounded, numerator)
            refused(self, "numerator", rounded, numerator, most)
        for denominator in (0, -1, -most, most + 1, 10**3999):
            refused(self, "denominator", rounded, 0, denominator)
            refused(self, "denominator", rounded, most - 1, denominator, shape=HALF)


if __name__ == "__main__":
    unittest.main()
