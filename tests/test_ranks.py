import struct
import unittest
from fractions import Fraction

from digitway.errors import NotFinite
from digitway.numbers import Number, by_rank, by_word, greatest, infinite, nan
from digitway.shapes import DOUBLE, HALF, SINGLE

from tests.things import SHAPES, SMALL_SHAPES, all_parts, edge_numbers, refused


def field(shape):
    bits = 0
    while 2**bits < shape[2] - shape[1] + 3:
        bits += 1
    return bits


def top(shape):
    return (2 ** field(shape) - 1) * 2 ** (shape[0] - 1)


def signed(shape):
    return 2 ** (shape[0] - 1 + field(shape))


def last_rank(shape):
    """By [3]: that of the greatest finite one, and 1."""
    precision, low, high = shape
    return 2**precision - 1 + (high - low) * 2 ** (precision - 1) + 1


class Ranks(unittest.TestCase):
    def test_at_the_edges(self):
        for shape in SHAPES:
            precision, low, high = shape
            for number in edge_numbers(shape):
                significand, exponent = number.parts()
                rank = significand + (exponent - low) * 2 ** (precision - 1)
                self.assertEqual(number.rank(), -rank if number.sign() else rank)

    def test_by_hand(self):
        self.assertEqual(Number(HALF, significand=1023).rank(), 1023)
        self.assertEqual(Number(HALF, significand=1024).rank(), 1024)
        self.assertEqual(Number(HALF, significand=2047).rank(), 2047)
        self.assertEqual(Number(HALF, significand=1024, exponent=-23).rank(), 2048)
        self.assertEqual(greatest(HALF).rank(), 31743)
        self.assertEqual(infinite(HALF).rank(), 31744)
        self.assertEqual(infinite(HALF, sign=1).rank(), -31744)
        self.assertEqual(Number(HALF, sign=1).rank(), 0)
        self.assertEqual(Number(HALF, sign=1, significand=1).rank(), -1)

    def test_infinite(self):
        for shape in SHAPES:
            self.assertEqual(infinite(shape).rank(), last_rank(shape))
            self.assertEqual(infinite(shape, sign=1).rank(), -last_rank(shape))

    def test_none_of_nan(self):
        for shape in SHAPES:
            with self.assertRaises(NotFinite) as caught:
                nan(shape).rank()
            self.assertEqual(caught.exception.state, "nan")

    def test_back_again(self):
        for shape in SHAPES:
            for number in edge_numbers(shape) + [infinite(shape), infinite(shape, sign=1)]:
                back = by_rank(number.rank(), shape)
                wanted = Number(shape) if number.kind() == "zero" else number
                self.assertTrue(back == wanted, (shape, str(number)))

    def test_of_0_the_zero_of_sign_0(self):
        for shape in SHAPES:
            self.assertTrue(by_rank(0, shape) == Number(shape, sign=0))
            self.assertEqual(by_rank(0, shape).sign(), 0)

    def test_just_outside(self):
        for shape in SHAPES:
            last = last_rank(shape)
            self.assertTrue(by_rank(last, shape) == infinite(shape))
            self.assertTrue(by_rank(-last, shape) == infinite(shape, sign=1))
            self.assertTrue(by_rank(last - 1, shape) == greatest(shape))
            self.assertTrue(by_rank(1 - last, shape) == greatest(shape, sign=1))
            for rank in (last + 1, -last - 1, 2 * last, 10**3999, -(10**3999)):
                refused(self, "rank", by_rank, rank, shape)

    def test_all_of_small_shapes(self):
        for shape in SMALL_SHAPES:
            parts = all_parts(shape)
            values = sorted(significand * Fraction(2) ** exponent for significand, exponent in parts)
            self.assertEqual(len(set(values)), last_rank(shape))
            for rank, value in enumerate(values):
                for sign in (0, 1):
                    number = by_rank(-rank if sign else rank, shape)
                    wanted = -value if sign else value
                    self.assertEqual(number.value(), (wanted.numerator, wanted.denominator))
                    self.assertEqual(number.rank(), -rank if sign else rank)
                    self.assertEqual(number.sign(), sign if rank else 0)
                    self.assertEqual(number.shape(), shape)

    def test_by_place_by_name_and_left_out(self):
        self.assertTrue(by_rank(5) == Number(DOUBLE, significand=5))
        self.assertTrue(by_rank(5, HALF) == Number(HALF, significand=5))
        self.assertTrue(by_rank(shape=HALF, rank=5) == Number(HALF, significand=5))
        self.assertTrue(by_rank(rank=-5) == Number(sign=1, significand=5))


class Words(unittest.TestCase):
    def test_at_the_edges(self):
        for shape in SHAPES:
            for number in edge_numbers(shape):
                word = abs(number.rank()) + (signed(shape) if number.sign() else 0)
                self.assertEqual(number.word(), word)
                self.assertTrue(by_word(word, shape) == number)

    def test_infinite_and_nan(self):
        for shape in SHAPES:
            self.assertEqual(infinite(shape).word(), top(shape))
            self.assertEqual(infinite(shape, sign=1).word(), top(shape) + signed(shape))
            self.assertEqual(nan(shape).word(), top(shape) + 2 ** (shape[0] - 2))
            self.assertTrue(by_word(top(shape), shape) == infinite(shape))
            self.assertTrue(by_word(top(shape) + signed(shape), shape) == infinite(shape, sign=1))

    def test_by_hand(self):
        self.assertEqual(Number(DOUBLE, significand=2**52, exponent=-52).word(), 0x3FF0000000000000)
        self.assertEqual(infinite().word(), 0x7FF0000000000000)
        self.assertEqual(nan().word(), 0x7FF8000000000000)
        self.assertEqual(Number(sign=1).word(), 0x8000000000000000)
        self.assertEqual(nan(SINGLE).word(), 0x7FC00000)
        self.assertEqual(nan(HALF).word(), 0x7E00)
        self.assertEqual(nan((2, 0, 0)).word(), 7)
        self.assertEqual(infinite((2, 0, 0)).word(), 6)

    def test_words_of_nan(self):
        for shape in SHAPES:
            first, last = top(shape) + 1, top(shape) + 2 ** (shape[0] - 1) - 1
            middle = nan(shape).word()
            words = {first, min(first + 1, last), (first + last) // 2, middle - 1, middle, middle + 1, last}
            for word in words:
                if first <= word <= last:
                    self.assertTrue(by_word(word, shape) == nan(shape), (shape, word))
                    self.assertTrue(by_word(word + signed(shape), shape) == nan(shape), (shape, word))

    def test_just_outside(self):
        for shape in SHAPES:
            end = 2 * signed(shape)
            self.assertTrue(by_word(end - 1, shape) == nan(shape))
            for word in (-1, end, end + 1, -end, 10**3999, -(10**3999)):
                refused(self, "word", by_word, word, shape)

    def test_between_the_greatest_and_the_infinite_one(self):
        seen = 0
        for shape in SHAPES:
            last = last_rank(shape)
            self.assertTrue(by_word(last - 1, shape) == greatest(shape))
            self.assertTrue(by_word(last - 1 + signed(shape), shape) == greatest(shape, sign=1))
            if last < top(shape):
                seen += 1
                for word in (last, top(shape) - 1):
                    refused(self, "word", by_word, word, shape)
                    refused(self, "word", by_word, word + signed(shape), shape)
        self.assertGreater(seen, 3)

    def test_all_of_small_shapes(self):
        for shape in SMALL_SHAPES:
            precision, low, high = shape
            wanted = {}
            for significand, exponent in all_parts(shape):
                for sign in (0, 1):
                    word = significand + (exponent - low) * 2 ** (precision - 1) + sign * signed(shape)
                    number = Number(shape, sign=sign, significand=significand, exponent=exponent)
                    self.assertNotIn(word, wanted)
                    wanted[word] = number
            for sign in (0, 1):
                wanted[top(shape) + sign * signed(shape)] = infinite(shape, sign=sign)
                for more in range(1, 2 ** (precision - 1)):
                    wanted[top(shape) + more + sign * signed(shape)] = nan(shape)
            for word in range(-3, 2 * signed(shape) + 4):
                if word in wanted:
                    self.assertTrue(by_word(word, shape) == wanted[word], (shape, word))
                    if wanted[word].kind() != "nan":
                        self.assertEqual(wanted[word].word(), word)
                else:
                    refused(self, "word", by_word, word, shape)

    def test_as_the_machine_has_them(self):
        for shape, letter, size in ((HALF, "e", 2), (SINGLE, "f", 4), (DOUBLE, "d", 8)):
            for number in edge_numbers(shape):
                plain = struct.unpack(">" + letter, number.word().to_bytes(size, "big"))[0]
                self.assertEqual(Fraction(plain), Fraction(*number.value()))
                back = int.from_bytes(struct.pack(">" + letter, plain), "big")
                self.assertTrue(by_word(back, shape) == number)

    def test_all_of_half(self):
        for word in range(2**16):
            plain = struct.unpack(">e", word.to_bytes(2, "big"))[0]
            number = by_word(word, HALF)
            if plain != plain:
                self.assertEqual(number.kind(), "nan")
            elif plain in (float("inf"), float("-inf")):
                self.assertEqual(number.kind(), "infinite")
                self.assertEqual(number.word(), word)
            else:
                self.assertEqual(number.value(), plain.as_integer_ratio())
                self.assertEqual(number.word(), word)

    def test_by_place_by_name_and_left_out(self):
        self.assertTrue(by_word(5) == Number(DOUBLE, significand=5))
        self.assertTrue(by_word(5, HALF) == Number(HALF, significand=5))
        self.assertTrue(by_word(shape=HALF, word=5) == Number(HALF, significand=5))
        self.assertTrue(by_word(word=5) == Number(significand=5))


if __name__ == "__main__":
    unittest.main()
