"""Where bits and width are sure of a shape at a power, the least digits where they are not, and papers."""

import unittest
from fractions import Fraction
from itertools import product

from digitway.checking import check_sure
from digitway.decimals import Decimal
from digitway.gaps import gap_paper
from digitway.shapes import DOUBLE, HALF, SINGLE
from digitway.sure import sure_paper, unsure
from digitway.tables import by_table, is_exact, opened

from tests import sure_by_hand
from tests.things import BOUND_SHAPES

SMALL = ((2, 0, 0), (2, -2, 3), (3, -2, 1), (4, -7, 6), (3, -20, -18), (4, -3, 0))

# Tables of the common shapes: (shape, bits, width), the powers of which they are sure, and those of which they aren't.
COMMON = (
    (HALF, 64, 64, (-1200, -400, -30, 0, 1, 27, 28, 1200), (-20, -10, -5, -1)),
    (HALF, 64, 53, (-30, -20, 0, 28), (-10, -5, -1)),
    (HALF, 20, 4, (-5, -1, 0, 5, 10), ()),
    (SINGLE, 64, 64, (-400, -100, 0, 20, 27, 40), (-50, -30, -10, -1, 28)),
    (SINGLE, 128, 64, (-100, -50, -30, -20, 5, 28, 40, 55), (-10, -5, -1)),
    (DOUBLE, 64, 64, (-1200, -400, 0, 22, 27, 309, 400, 1200), (-342, -300, -100, -1, 28, 40, 100, 200, 308)),
    (DOUBLE, 128, 64, (-342, -300, -100, -10, -5, 28, 55, 56, 100, 300, 308), (-1, 200)),
    (DOUBLE, 400, 200, (-342, -300, -100, 172, 200, 300, 308), (-50, -20, -1)),
)


class Small(unittest.TestCase):
    def test_against_all_digits(self):
        seen = {"exact": 0, "sure": 0, "rows": 0, "unsure": 0}
        for shape, power, bits, width in product(SMALL, range(-6, 7), (2, 3, 5, 8, 12), (1, 2, 4, 5)):
            wanted = sure_by_hand.unsure(power, shape, bits, width)
            self.assertEqual(unsure(power, shape, bits=bits, width=width), wanted, (power, shape, bits, width))
            paper = sure_paper(power, shape, bits=bits, width=width)
            self.assertTrue((paper is None) is (wanted is not None))
            if paper is not None:
                self.assertTrue(sure_by_hand.sure_comes_out(power, paper, shape, bits, width))
                self.assertIsNone(check_sure(power, paper, shape, bits=bits, width=width))
                seen["exact"] += is_exact(power, bits=bits)
                seen["rows"] += len(paper) > 0
            seen["sure" if paper is not None else "unsure"] += 1
        self.assertTrue(min(seen.values()) > 20, seen)

    def test_all_digits_are_told_where_they_are_sure(self):
        for shape, power, bits, width in product(SMALL, range(-4, 5), (2, 4, 8, 12), (2, 4)):
            least = unsure(power, shape, bits=bits, width=width)
            for digits in range(1, 2**width if least is None else least):
                self.assertIsNotNone(by_table(Decimal(digits, power), shape, bits=bits, width=width))

    def test_by_all_digits_of_half(self):
        for power, bits, width in ((-3, 12, 9), (-5, 20, 9), (-2, 30, 9), (-10, 24, 9), (1, 2, 9), (3, 4, 9)):
            wanted = None
            for digits in range(1, 2**width):
                least, most = [Fraction(*end) for end in opened(Decimal(digits, power), bits=bits, width=width)]
                if not is_exact(power, bits=bits) and sure_by_hand.has_half_way(HALF, least, most):
                    wanted = digits
                    break
            self.assertEqual(unsure(power, HALF, bits=bits, width=width), wanted)


class Common(unittest.TestCase):
    def test_where_they_are_sure(self):
        for shape, bits, width, sure, other in COMMON:
            for power in sure:
                with self.subTest(shape=shape, bits=bits, width=width, power=power):
                    self.assertIsNone(unsure(power, shape, bits=bits, width=width))
                    paper = sure_paper(power, shape, bits=bits, width=width)
                    self.assertTrue(type(paper) is tuple)
                    self.assertTrue(sure_by_hand.sure_comes_out(power, paper, shape, bits, width))
                    self.assertIsNone(check_sure(power, paper, shape, bits=bits, width=width))

    def test_where_they_are_not(self):
        for shape, bits, width, sure, other in COMMON:
            for power in other:
                with self.subTest(shape=shape, bits=bits, width=width, power=power):
                    digits = unsure(power, shape, bits=bits, width=width)
                    self.assertTrue(type(digits) is int and 1 <= digits < 2**width)
                    self.assertIsNone(sure_paper(power, shape, bits=bits, width=width))
                    ends = opened(Decimal(digits, power), bits=bits, width=width)
                    self.assertTrue(sure_by_hand.has_half_way(shape, Fraction(*ends[0]), Fraction(*ends[1])))
                    self.check_least(power, shape, bits, width, digits)

    def check_least(self, power, shape, bits, width, digits):
        """No digits ahead of these are unsure: by a paper for each exponent that comes out."""
        for exponent, first, last, walk, wide in sure_by_hand.rows(power, shape, bits, width):
            if first < digits:
                self.assertTrue(wide < walk[2])
                stop = min(last, digits - 1) - first
                paper = gap_paper(walk, 0, wide, stop=stop)
                self.assertTrue(sure_by_hand.comes_out(walk, 0, wide, paper, stop))

    def test_an_exact_entry_has_an_empty_paper(self):
        for power, bits in ((0, 2), (1, 3), (22, 53), (27, 64), (55, 128), (172, 400)):
            for shape in (HALF, DOUBLE) + BOUND_SHAPES:
                self.assertEqual(sure_paper(power, shape, bits=bits, width=200), ())
                self.assertIsNone(unsure(power, shape, bits=bits, width=200))

    def test_half_ways_that_are_told_exactly(self):
        # 1.00048828125 is half way from 1 to the next of HALF: its digits are unsure with whatever bits.
        self.assertEqual(unsure(-11, HALF, bits=400, width=64), unsure(-11, HALF, bits=300, width=64))
        digits = unsure(-11, HALF, bits=400, width=64)
        self.assertTrue(sure_by_hand.has_half_way(HALF, *[digits * Fraction(1, 10**11)] * 2))

    def test_rows(self):
        paper = sure_paper(-5, HALF, bits=20, width=4)
        self.assertTrue(type(paper) is tuple and len(paper) == 2)
        for row in paper:
            self.assertTrue(type(row) is tuple and len(row) == 2 and type(row[0]) is int)
            self.assertTrue(type(row[1]) is tuple and [type(part) for part in row[1]] == [int] * 5)
        self.assertEqual([row[0] for row in paper], [-24, -23])

    def test_many_rows(self):
        self.assertEqual(len(sure_paper(-100, bits=128)), 65)
        self.assertEqual(len(sure_paper(-100, bits=400, width=200)), 201)

    def test_the_bounds_of_all(self):
        for shape, power, bits, width in product(BOUND_SHAPES, (-1200, -320, 320, 1200), (2, 400), (1, 200)):
            digits = unsure(power, shape, bits=bits, width=width)
            paper = sure_paper(power, shape, bits=bits, width=width)
            self.assertTrue((paper is None) is (digits is not None))
            if paper is not None:
                self.assertTrue(sure_by_hand.sure_comes_out(power, paper, shape, bits, width))
            else:
                ends = opened(Decimal(digits, power), bits=bits, width=width)
                self.assertTrue(sure_by_hand.has_half_way(shape, Fraction(*ends[0]), Fraction(*ends[1])))
                self.check_least(power, shape, bits, width, digits)

    def test_names_and_defaults(self):
        for call in (unsure, sure_paper):
            for power in (-342, -50, 0, 28, 400):
                wanted = call(power, DOUBLE, bits=64, width=64)
                self.assertEqual(call(power), wanted)
                self.assertEqual(call(width=64, bits=64, shape=DOUBLE, power=power), wanted)
                self.assertEqual(call(power, bits=128), call(power, DOUBLE, bits=128, width=64))
                self.assertEqual(call(power, width=20), call(power, DOUBLE, bits=64, width=20))


if __name__ == "__main__":
    unittest.main()
