"""What is known of a number ahead of the end of its text."""

import unittest
from itertools import product

from digitway.feeds import Feed
from digitway.numbers import Number, greatest, infinite, nan
from digitway.reading import read
from digitway.shapes import DOUBLE, HALF, SINGLE

from tests import texts_by_hand
from tests.test_feeds import BEGINNINGS
from tests.things import BOUND_SHAPES, SMALL_SHAPES, WAYS

HALF_WAY = "1.00048828125"


def known(heard, shape=DOUBLE, way="nearest", **named):
    feed = Feed(shape, way=way)
    feed.push(heard)
    told = feed.known(**named)
    # Asking changes nothing.
    assert feed.pieces() == [heard]
    return told


class AgainstTexts(unittest.TestCase):
    def check(self, heard, shape, way):
        for figures in (False, True):
            wanted = texts_by_hand.known(heard, shape, way, figures)
            told = known(heard, shape, way, figures=figures)
            if wanted is None:
                self.assertIsNone(told, (heard, shape, way, figures))
            else:
                self.assertTrue(told == wanted, (heard, shape, way, figures, told, wanted))
        return wanted

    def test_each_beginning(self):
        for heard, (shape, way) in product(BEGINNINGS, ((HALF, "nearest"), ((2, 0, 0), "zero"), ((3, -2, 1), "up"))):
            self.check(heard, shape, way)

    def test_at_and_around_half_ways(self):
        for way, mark in product(WAYS, ("", "-")):
            for many in range(1, len(HALF_WAY) + 1):
                self.check(mark + HALF_WAY[:many], HALF, way)
            for heard in ("1.00048828124", "1.000488281249", "1.000488281250", "1.000488281251", "1.0004882813", "1.001"):
                self.check(mark + heard, HALF, way)

    def test_at_numbers(self):
        for way, mark in product(WAYS, ("", "-")):
            for heard in ("1.0", "1.000000000", "0.9999999999", "0.25", "0.250", "0.24999999999", "2047.", "2048.", "2049."):
                self.check(mark + heard, HALF, way)

    def test_at_what_is_too_great(self):
        for way, mark in product(WAYS, ("", "-")):
            for heard in ("65503", "65504", "65505", "65519", "65520", "65535", "65536", "7", "70000", "999999"):
                for ending in ("", ".", ".0", ".99999"):
                    self.check(mark + heard + ending, HALF, way)

    def test_at_noughts(self):
        for way, mark in product(WAYS, ("", "-", "+")):
            for heard in ("0", "00", "0.", ".", ".0", "0.0000", "0.000000000", "0.0000000298", "0.00000002980232238"):
                self.check(mark + heard, HALF, way)
                self.check(mark + heard, (2, 0, 0), way)

    def test_behind_an_e(self):
        for way, mark in product(WAYS, ("", "-")):
            for digits in ("0", "0.000", "1", "65504", "0.00001", "123456"):
                for power in ("", "-", "+", "0", "00", "0000", "-0", "1", "9", "-1", "-9", "12", "-12", "-000", "4", "-4", "-001"):
                    self.check(f"{mark}{digits}e{power}", HALF, way)

    def test_small_shapes(self):
        found = {True: 0, False: 0}
        for shape, way in product(SMALL_SHAPES, WAYS):
            for heard in ("0.", "-.", "1", "-3", "1.5", "12.", "0.12", "-0.37", "9.99", "1.74", "2.49", "0.5", "40", "-40."):
                found[self.check(heard, shape, way) is None] += 1
        self.assertTrue(min(found.values()) > 100, found)

    def test_great_shapes(self):
        for shape in (SINGLE, DOUBLE) + BOUND_SHAPES:
            for way in ("nearest", "up", "zero"):
                for heard in ("0.1", "0.10000000000000000001", "123.456e", "-0.0", "1" * 30 + ".", "0e-", "1e3", "1e4", "1e-4"):
                    self.check(heard, shape, way)

    def test_long_ones(self):
        # What may follow has more signs than a feed can hear.
        for heard, way in (
            ("1." + "0" * 1898, "nearest"),
            ("1." + "0" * 1898, "down"),
            ("0." + "0" * 1897 + "1", "up"),
            ("-" + "9" * 1899, "nearest"),
            ("1" * 1899 + "e", "nearest"),
            ("1" * 1897 + "e-1", "up"),
            ("0" * 1899 + "e", "nearest"),
            ("." + "9" * 1898 + "e", "zero"),
        ):
            self.check(heard, HALF, way)


class AsItStands(unittest.TestCase):
    def test_words(self):
        for heard in ("n", "na", "nan"):
            self.assertTrue(known(heard, HALF) == nan(HALF))
        for heard in ("i", "in", "inf", "+i", "+in", "+inf"):
            self.assertTrue(known(heard, HALF) == infinite(HALF))
        for heard in ("-i", "-in", "-inf"):
            self.assertTrue(known(heard, HALF) == infinite(HALF, sign=1))

    def test_words_and_figures(self):
        for heard in ("n", "na", "i", "in", "-i", "+in"):
            self.assertIsNone(known(heard, figures=True))
        self.assertTrue(known("nan", figures=True) == nan())
        self.assertTrue(known("-inf", figures=True) == infinite(sign=1))
        self.assertTrue(known("+inf", figures=True) == infinite())

    def test_nothing_and_signs(self):
        for heard, figures in product(("", "-", "+"), (False, True)):
            self.assertIsNone(known(heard, (2, 0, 0), "zero", figures=figures))

    def test_an_e_may_follow(self):
        for heard in ("1", "12.5", "0.1000000", ".", "0", "-0.0", "9" * 1900):
            self.assertIsNone(known(heard))
            self.assertIsNone(known(heard, (2, 0, 0), "zero"))

    def test_half_ways(self):
        one, above = Number(HALF, significand=1024, exponent=-10), Number(HALF, significand=1025, exponent=-10)
        for ahead in ("1.0004882812", "1.000488281", "1.00048"):
            self.assertIsNone(known(ahead, HALF, figures=True))
        self.assertTrue(known("1.00048828124", HALF, figures=True) == one)
        self.assertTrue(known("1.00048828124", HALF, "away", figures=True) == one)
        self.assertIsNone(known(HALF_WAY, HALF, figures=True))
        self.assertTrue(known(HALF_WAY, HALF, "away", figures=True) == above)
        self.assertTrue(known(HALF_WAY + "1", HALF, figures=True) == above)
        self.assertIsNone(known("-" + HALF_WAY, HALF, figures=True))
        self.assertTrue(known("-" + HALF_WAY, HALF, "away", figures=True) == above.negated())

    def test_one_side_of_a_number(self):
        one = Number(HALF, significand=1024, exponent=-10)
        self.assertIsNone(known("1.000", HALF, "down", figures=True))
        self.assertTrue(known("1.0000", HALF, "down", figures=True) == one)
        self.assertTrue(known("-1.0000", HALF, "up", figures=True) == one.negated())
        self.assertIsNone(known("1.0000", HALF, "up", figures=True))
        self.assertIsNone(known("-1.0000", HALF, "down", figures=True))
        self.assertTrue(known("1.0001", HALF, "up", figures=True) == one.up())
        self.assertTrue(known("0.9999", HALF, "up", figures=True) == one)

    def test_too_great(self):
        self.assertTrue(known("65520", HALF, figures=True) == infinite(HALF))
        self.assertIsNone(known("65519", HALF, figures=True))
        self.assertTrue(known("65519.", HALF, figures=True) == greatest(HALF))
        self.assertTrue(known("65504", HALF, "zero", figures=True) == greatest(HALF))
        self.assertIsNone(known("65503", HALF, "zero", figures=True))
        self.assertTrue(known("-65504", HALF, "up", figures=True) == greatest(HALF, sign=1))
        self.assertTrue(known("-65505", HALF, "down", figures=True) == infinite(HALF, sign=1))
        self.assertTrue(known("1e9", HALF) == infinite(HALF))
        self.assertIsNone(known("1e4", HALF))
        self.assertTrue(known("1e5", HALF) == infinite(HALF))
        self.assertTrue(known("1e-9", HALF) == Number(HALF))

    def test_noughts(self):
        for heard in ("0e", "0e-", "0e5", "0.000e", "00e1234", "+0e"):
            for figures in (False, True):
                self.assertTrue(known(heard, figures=figures) == Number())
                self.assertTrue(known("-" + heard.lstrip("+"), figures=figures) == Number(sign=1))
        # What is less than half of the least number above 0 goes to 0.
        self.assertTrue(known("0.", (2, 0, 0), "zero", figures=True) == Number((2, 0, 0)))
        self.assertTrue(known(".", (2, 0, 0), "zero", figures=True) == Number((2, 0, 0)))
        self.assertTrue(known("-.", (2, 0, 0), "up", figures=True) == Number((2, 0, 0), sign=1))
        self.assertIsNone(known("0.", (2, 0, 0), figures=True))
        self.assertTrue(known("0.4", (2, 0, 0), figures=True) == Number((2, 0, 0)))
        self.assertTrue(known("-0.0", (2, 0, 0), figures=True) == Number((2, 0, 0), sign=1))

    def test_all_is_heard(self):
        for text in ("1e1234", "-5e-0001", "1.5e+0000", "nan", "-inf"):
            for shape, way in product((HALF, DOUBLE), WAYS):
                for figures in (False, True):
                    self.assertTrue(known(text, shape, way, figures=figures) == read(text, shape, way=way)[0])

    def test_powers_of_either_sign_behind_an_e(self):
        self.assertIsNone(known("70000e", HALF))
        self.assertTrue(known("70000e", HALF, figures=True) == infinite(HALF))
        self.assertTrue(known("70000e+", HALF) == infinite(HALF))
        self.assertIsNone(known("70000e-", HALF))
        self.assertTrue(known("0.00000001e-", HALF) == Number(HALF))
        self.assertIsNone(known("0.00000001e", HALF))

    def test_defaults(self):
        self.assertTrue(known("0e") == known("0e", figures=False))
        self.assertIsNone(known("0.0"))


if __name__ == "__main__":
    unittest.main()
