import math
import struct
import unittest
from fractions import Fraction

from digitway.errors import NotFinite
from digitway.numbers import Number, between, by_rank, compare, greatest, infinite, nan
from digitway.shapes import DOUBLE, HALF, SINGLE

from tests.things import SHAPES, SMALL_SHAPES, edge_numbers, refused


def edges(shape):
    return edge_numbers(shape) + [infinite(shape), infinite(shape, sign=1)]


def every_one(shape):
    """All but nan of a small shape, rising, both zeros with it."""
    last = infinite(shape).rank()
    below = [by_rank(rank, shape) for rank in range(-last, 0)]
    above = [by_rank(rank, shape) for rank in range(1, last + 1)]
    return below, Number(shape, sign=1), Number(shape), above


def place(number):
    """Something of Python's own that is ordered as the number is."""
    if number.kind() == "infinite":
        return (-1 if number.sign() else 1, 0)
    return (0, Fraction(*number.value()))


def plain(number):
    return struct.unpack(">d", number.word().to_bytes(8, "big"))[0]


class UpAndDown(unittest.TestCase):
    def test_one_rank_more_or_less(self):
        for shape in SHAPES:
            last = infinite(shape).rank()
            for number in edges(shape):
                for moved, step in ((number.up(), 1), (number.down(), -1)):
                    self.assertEqual(moved.shape(), shape)
                    if abs(number.rank() + step) > last:
                        self.assertTrue(moved == number)
                        continue
                    self.assertEqual(moved.rank(), number.rank() + step)
                    if moved.rank() == 0:
                        self.assertEqual((moved.kind(), moved.sign()), ("zero", number.sign()))

    def test_to_zero_from_both_sides(self):
        for shape in SHAPES:
            self.assertTrue(Number(shape, significand=1).down() == Number(shape, sign=0))
            self.assertTrue(Number(shape, sign=1, significand=1).up() == Number(shape, sign=1))

    def test_from_both_zeros(self):
        for shape in SHAPES:
            for sign in (0, 1):
                self.assertTrue(Number(shape, sign=sign).up() == Number(shape, significand=1))
                self.assertTrue(Number(shape, sign=sign).down() == Number(shape, sign=1, significand=1))

    def test_at_the_infinite_ones(self):
        for shape in SHAPES:
            self.assertTrue(greatest(shape).up() == infinite(shape))
            self.assertTrue(infinite(shape).down() == greatest(shape))
            self.assertTrue(infinite(shape).up() == infinite(shape))
            self.assertTrue(greatest(shape, sign=1).down() == infinite(shape, sign=1))
            self.assertTrue(infinite(shape, sign=1).up() == greatest(shape, sign=1))
            self.assertTrue(infinite(shape, sign=1).down() == infinite(shape, sign=1))

    def test_nan(self):
        for shape in SHAPES:
            self.assertTrue(nan(shape).up() == nan(shape))
            self.assertTrue(nan(shape).down() == nan(shape))

    def test_where_kind_and_exponent_change(self):
        for shape in SHAPES:
            precision, low, high = shape
            first, last = 2 ** (precision - 1), 2**precision - 1
            self.assertEqual(Number(shape, significand=first - 1).up().parts(), (first, low))
            self.assertEqual(Number(shape, significand=first).down().parts(), (first - 1, low))
            if high > low:
                self.assertEqual(Number(shape, significand=last).up().parts(), (first, low + 1))
                self.assertEqual(Number(shape, significand=first, exponent=low + 1).down().parts(), (last, low))

    def test_all_of_small_shapes(self):
        for shape in SMALL_SHAPES:
            below, minus, zero, above = every_one(shape)
            for rising in (below + [minus], [zero] + above, [minus] + above):
                for one, other in zip(rising, rising[1:]):
                    self.assertTrue(one.up() == other, (str(one), str(other)))
            for rising in ([zero] + above, below + [minus], below + [zero]):
                for one, other in zip(rising, rising[1:]):
                    self.assertTrue(other.down() == one, (str(one), str(other)))

    def test_as_the_machine_has_them(self):
        for number in edges(DOUBLE):
            for moved, end in ((number.up(), math.inf), (number.down(), -math.inf)):
                wanted = math.nextafter(plain(number), end)
                self.assertEqual(plain(moved), wanted)
                self.assertEqual(math.copysign(1, plain(moved)), math.copysign(1, wanted))


class Compare(unittest.TestCase):
    def test_across_unlike_shapes(self):
        shapes = (HALF, SINGLE, DOUBLE, (2, 0, 0), (2, -1100, 1000), (64, -1100, 1000), (64, 0, 0), (2, -1100, -1100))
        numbers = [number for shape in shapes for number in edges(shape)]
        places = [place(number) for number in numbers]
        for one, left in zip(numbers, places):
            for other, right in zip(numbers, places):
                wanted = (left > right) - (left < right)
                self.assertEqual(compare(one, other), wanted, (str(one), str(other)))

    def test_zeros_are_like_one_another(self):
        for one in (Number(HALF), Number(HALF, sign=1), Number(DOUBLE), Number(DOUBLE, sign=1)):
            for other in (Number(HALF), Number(HALF, sign=1), Number(SINGLE, sign=1)):
                self.assertEqual(compare(one, other), 0)

    def test_like_values_by_unlike_parts(self):
        one = Number(HALF, significand=1024, exponent=-10)
        other = Number(DOUBLE, significand=2**52, exponent=-52)
        self.assertEqual(compare(one, other), 0)
        self.assertEqual(compare(one, other.up()), -1)
        self.assertEqual(compare(one, other.down()), 1)
        self.assertEqual(compare(one.negated(), other.negated()), 0)
        self.assertEqual(compare(one.negated(), other), -1)

    def test_infinite_ones(self):
        wide, narrow = (64, -1100, 1000), (2, 0, 0)
        self.assertEqual(compare(infinite(narrow), greatest(wide)), 1)
        self.assertEqual(compare(greatest(wide), infinite(narrow)), -1)
        self.assertEqual(compare(infinite(narrow, sign=1), greatest(wide, sign=1)), -1)
        self.assertEqual(compare(greatest(wide, sign=1), infinite(narrow, sign=1)), 1)
        self.assertEqual(compare(infinite(narrow), infinite(wide)), 0)
        self.assertEqual(compare(infinite(narrow, sign=1), infinite(wide, sign=1)), 0)
        self.assertEqual(compare(infinite(narrow), infinite(wide, sign=1)), 1)
        self.assertEqual(compare(infinite(narrow, sign=1), infinite(wide)), -1)

    def test_nan_with_none(self):
        for number in edges(HALF) + [nan(HALF), nan(DOUBLE)]:
            self.assertTrue(compare(number, nan(HALF)) is None)
            self.assertTrue(compare(nan(SINGLE), number) is None)

    def test_all_of_small_shapes(self):
        for shape in SMALL_SHAPES[:5]:
            below, minus, zero, above = every_one(shape)
            rising = below + [zero] + above
            for at, one in enumerate(rising):
                for other_at, other in enumerate(rising):
                    self.assertEqual(compare(one, other), (at > other_at) - (at < other_at))

    def test_by_names(self):
        self.assertEqual(compare(one=Number(), other=infinite()), -1)
        self.assertEqual(compare(other=Number(), one=infinite()), 1)


class Between(unittest.TestCase):
    def test_at_the_edges(self):
        for shape in SHAPES:
            numbers = edges(shape)
            for one in numbers:
                for other in numbers:
                    wanted = max(0, abs(one.rank() - other.rank()) - 1)
                    self.assertEqual(between(one, other), wanted)

    def test_one_and_next_ones(self):
        for shape in SHAPES:
            for number in edges(shape):
                self.assertEqual(between(number, number), 0)
                self.assertEqual(between(number, number.up()), 0)
                self.assertEqual(between(number.down(), number), 0)
            self.assertEqual(between(Number(shape), Number(shape, sign=1)), 0)
            self.assertEqual(between(Number(shape, sign=1), Number(shape)), 0)

    def test_by_hand(self):
        one, two, three = (by_rank(rank, HALF) for rank in (-1, 1, 4))
        self.assertEqual(between(one, two), 1)
        self.assertEqual(between(two, three), 2)
        self.assertEqual(between(three, one), 4)
        self.assertEqual(between(infinite(HALF), infinite(HALF, sign=1)), 2 * 31744 - 1)
        self.assertEqual(between(infinite(), infinite(sign=1)), 2 * (2047 * 2**52) - 1)

    def test_counted_in_small_shapes(self):
        for shape in SMALL_SHAPES[:4]:
            below, minus, zero, above = every_one(shape)
            rising = below + [zero] + above
            for at, one in enumerate(rising):
                for other_at in range(at + 1, len(rising)):
                    self.assertEqual(between(one, rising[other_at]), len(rising[at + 1:other_at]))
                    self.assertEqual(between(rising[other_at], one), len(rising[at + 1:other_at]))

    def test_two_shapes(self):
        for one, other in ((Number(HALF), Number(SINGLE)), (nan(HALF), Number(SINGLE)), (nan(HALF), nan(SINGLE)),
                           (infinite((2, 0, 0)), infinite((2, 0, 1))), (Number((3, 0, 0)), Number((2, 0, 0)))):
            refused(self, "shape", between, one, other)

    def test_nan(self):
        for one, other in ((nan(), Number()), (Number(), nan()), (nan(), nan()), (nan(), infinite())):
            with self.assertRaises(NotFinite) as caught:
                between(one, other)
            self.assertEqual(caught.exception.state, "nan")

    def test_by_names(self):
        self.assertEqual(between(one=by_rank(3), other=by_rank(5)), 1)
        self.assertEqual(between(other=by_rank(3), one=by_rank(6)), 2)


if __name__ == "__main__":
    unittest.main()
