import math
import unittest
from fractions import Fraction
from unittest.mock import ANY

from digitway.errors import NotFinite
from digitway.numbers import Number, by_rank, greatest, infinite, nan
from digitway.shapes import DOUBLE, HALF, SINGLE

from tests.things import NOT_NUMBERS, SHAPES, SMALL_SHAPES, Agreeable, all_parts, edge_numbers, edge_parts


def expected_kind(shape, significand):
    if significand == 0:
        return "zero"
    return "normal" if significand >= 2 ** (shape[0] - 1) else "subnormal"


class Finite(unittest.TestCase):
    def check(self, shape, sign, significand, exponent):
        number = Number(shape, sign=sign, significand=significand, exponent=exponent)
        self.assertEqual(number.shape(), shape)
        self.assertEqual(number.sign(), sign)
        self.assertEqual(number.parts(), (significand, exponent))
        self.assertEqual(number.kind(), expected_kind(shape, significand))
        value = (-1) ** sign * significand * Fraction(2) ** exponent
        self.assertEqual(number.value(), (value.numerator, value.denominator))
        self.assertTrue(type(number.value()) is tuple and type(number.parts()) is tuple)
        text = ("-" if sign else "") + str(significand) + "p" + str(exponent)
        self.assertEqual(str(number), text)
        self.assertEqual(repr(number), "Number(" + text + ")")
        self.check_negated(number)

    def check_negated(self, number):
        other = number.negated()
        self.assertEqual(other.sign(), 1 - number.sign())
        self.assertEqual(other.parts(), number.parts())
        self.assertEqual(other.shape(), number.shape())
        self.assertEqual(other.kind(), number.kind())
        self.assertTrue(other != number)
        self.assertTrue(other.negated() == number)

    def test_at_the_edges_of_each_shape(self):
        for shape in SHAPES:
            for significand, exponent in edge_parts(shape):
                for sign in (0, 1):
                    with self.subTest(shape=shape, sign=sign, significand=significand, exponent=exponent):
                        self.check(shape, sign, significand, exponent)

    def test_all_of_small_shapes(self):
        for shape in SMALL_SHAPES:
            for significand, exponent in all_parts(shape):
                for sign in (0, 1):
                    self.check(shape, sign, significand, exponent)

    def test_by_hand(self):
        number = Number((4, -3, 5), sign=1, significand=5, exponent=-3)
        self.assertEqual(str(number), "-5p-3")
        self.assertEqual(repr(number), "Number(-5p-3)")
        self.assertEqual(number.value(), (-5, 8))
        self.assertEqual(Number(HALF, significand=1024, exponent=-10).value(), (1, 1))
        self.assertEqual(Number(HALF, significand=1536, exponent=-10).value(), (3, 2))
        self.assertEqual(Number(HALF, significand=2047, exponent=5).value(), (65504, 1))
        self.assertEqual(Number(HALF, significand=6).value(), (3, 2**23))
        self.assertEqual(Number((4, -3, 5), significand=8, exponent=-3).value(), (1, 1))
        self.assertEqual(Number((4, -3, 5), significand=8, exponent=-2).value(), (2, 1))
        self.assertEqual(Number((4, 0, 5), significand=3).value(), (3, 1))

    def test_value_of_zeros(self):
        for shape in SHAPES:
            for sign in (0, 1):
                self.assertEqual(Number(shape, sign=sign).value(), (0, 1))

    def test_first_normal_at_low(self):
        for shape in SHAPES:
            first = 2 ** (shape[0] - 1)
            self.assertEqual(Number(shape, significand=first).kind(), "normal")
            self.assertEqual(Number(shape, significand=first - 1).kind(), "subnormal")

    def test_value_as_python_has_it(self):
        for number in edge_numbers(DOUBLE):
            significand, exponent = number.parts()
            plain = math.ldexp(significand, exponent)
            ratio = Fraction(-plain if number.sign() else plain)
            self.assertEqual(number.value(), (ratio.numerator, ratio.denominator))


class Defaults(unittest.TestCase):
    def test_all_left_out(self):
        number = Number()
        self.assertEqual(number.shape(), DOUBLE)
        self.assertEqual((number.sign(), number.parts()), (0, (0, -1074)))
        self.assertEqual(infinite().shape(), DOUBLE)
        self.assertEqual(infinite().sign(), 0)
        self.assertEqual(nan().shape(), DOUBLE)
        self.assertEqual(greatest().parts(), (2**53 - 1, 971))
        self.assertEqual((greatest().shape(), greatest().sign()), (DOUBLE, 0))

    def test_exponent_none_is_low(self):
        for shape in SHAPES:
            low = shape[1]
            self.assertEqual(Number(shape, significand=1).parts(), (1, low))
            self.assertEqual(Number(shape, significand=1, exponent=None).parts(), (1, low))
            top = 2 ** shape[0] - 1
            self.assertEqual(Number(shape, significand=top, exponent=None).parts(), (top, low))

    def test_by_names(self):
        number = Number(exponent=5, significand=1024, sign=1, shape=HALF)
        self.assertEqual(str(number), "-1024p5")
        self.assertEqual(str(infinite(sign=1, shape=HALF)), "-inf")
        self.assertEqual(nan(shape=HALF).shape(), HALF)
        self.assertEqual(str(greatest(sign=1, shape=HALF)), "-2047p5")

    def test_behind_the_star_by_name_alone(self):
        for call in (
            lambda: Number(DOUBLE, 0),
            lambda: Number(DOUBLE, 0, 0),
            lambda: infinite(DOUBLE, 0),
            lambda: greatest(DOUBLE, 0),
            lambda: nan(DOUBLE, 0),
        ):
            with self.assertRaises(TypeError):
                call()


class Others(unittest.TestCase):
    def test_infinite(self):
        for shape in SHAPES:
            for sign in (0, 1):
                number = infinite(shape, sign=sign)
                text = ("inf", "-inf")[sign]
                self.assertEqual((number.shape(), number.sign(), number.kind()), (shape, sign, "infinite"))
                self.assertEqual((str(number), repr(number)), (text, f"Number({text})"))
                self.assertTrue(number.negated() == infinite(shape, sign=1 - sign))

    def test_nan(self):
        for shape in SHAPES:
            number = nan(shape)
            self.assertEqual((number.shape(), number.sign(), number.kind()), (shape, 0, "nan"))
            self.assertEqual((str(number), repr(number)), ("nan", "Number(nan)"))
            self.assertTrue(number.negated() == number)
            self.assertEqual(number.negated().sign(), 0)

    def test_no_parts_and_no_value(self):
        for shape in SHAPES:
            for number, state in (
                (infinite(shape), "infinite"),
                (infinite(shape, sign=1), "infinite"),
                (nan(shape), "nan"),
            ):
                for ask in (number.parts, number.value):
                    with self.assertRaises(NotFinite) as caught:
                        ask()
                    self.assertEqual(caught.exception.state, state)

    def test_greatest(self):
        for shape in SHAPES:
            precision, low, high = shape
            for sign in (0, 1):
                number = greatest(shape, sign=sign)
                self.assertEqual((number.shape(), number.sign()), (shape, sign))
                self.assertEqual(number.parts(), (2**precision - 1, high))
                self.assertTrue(number.negated() == greatest(shape, sign=1 - sign))


class Equal(unittest.TestCase):
    def test_each_two(self):
        shapes = (HALF, SINGLE, DOUBLE, (2, 0, 0), (2, -1, 0), (2, 0, 1), (3, 0, 0), (64, -1100, 1000), (11, -24, 6))
        numbers = []
        for shape in shapes:
            for number in edge_numbers(shape):
                numbers.append(((shape, "finite", number.sign(), number.parts()), number))
            numbers.append(((shape, "infinite", 0), infinite(shape)))
            numbers.append(((shape, "infinite", 1), infinite(shape, sign=1)))
            numbers.append(((shape, "nan"), nan(shape)))
        for key, number in numbers:
            for other_key, other in numbers:
                same = key == other_key
                self.assertTrue((number == other) is same, (key, other_key))
                self.assertTrue((number != other) is not same, (key, other_key))

    def test_made_apart(self):
        for shape in SHAPES:
            for number in edge_numbers(shape):
                significand, exponent = number.parts()
                again = Number(shape, sign=number.sign(), significand=significand, exponent=exponent)
                self.assertTrue(number == again)
                self.assertFalse(number != again)
            self.assertTrue(infinite(shape) == infinite(shape))
            self.assertTrue(infinite(shape, sign=1) == infinite(shape, sign=1))
            self.assertTrue(nan(shape) == nan(shape))

    def test_like_values_of_unlike_shapes_and_parts(self):
        self.assertFalse(Number(HALF) == Number(SINGLE))
        self.assertFalse(Number(HALF) == Number(HALF, sign=1))
        self.assertFalse(infinite(HALF) == infinite(SINGLE))
        self.assertFalse(nan(HALF) == nan(SINGLE))
        self.assertFalse(infinite(HALF) == greatest(HALF))
        self.assertFalse(infinite(HALF) == nan(HALF))
        self.assertFalse(Number(HALF) == nan(HALF))
        self.assertFalse(Number(HALF) == infinite(HALF))

    def test_shape_is_compared_by_what_it_holds(self):
        self.assertTrue(Number(tuple([11, -24, 5])) == Number(HALF))

    def test_unlike_whatever_is_no_number(self):
        for number in (Number(), Number(HALF, sign=1, significand=3), infinite(), infinite(sign=1), nan()):
            for name, thing in NOT_NUMBERS.items():
                with self.subTest(number=str(number), thing=name):
                    self.assertTrue((number == thing) is False)
                    self.assertTrue((number != thing) is True)
            for thing in (ANY, Agreeable(), str(number), repr(number), number.word(), number.shape()):
                self.assertTrue((number == thing) is False)
                self.assertTrue((number != thing) is True)


class Unchanged(unittest.TestCase):
    def test_nothing_asked_changes_a_number(self):
        for number in edge_numbers(HALF) + [infinite(HALF), infinite(HALF, sign=1), nan(HALF)]:
            told = (str(number), number.kind(), number.shape(), number.sign(), number.word())
            for ask in (number.up, number.down, number.negated, number.word, number.kind):
                ask()
            number.up().up()
            number.negated().down()
            self.assertEqual((str(number), number.kind(), number.shape(), number.sign(), number.word()), told)

    def test_those_of_others_stay(self):
        one = infinite(HALF)
        nan(HALF)
        greatest(HALF)
        by_rank(0, HALF)
        self.assertEqual(str(one), "inf")
        self.assertEqual(str(Number(HALF)), "0p-24")


if __name__ == "__main__":
    unittest.main()
