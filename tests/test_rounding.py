import unittest
from fractions import Fraction

from digitway import rounding
from digitway.rounding import is_way, to_whole

from tests import by_hand
from tests.things import NOT_WAYS, WAYS, refused

TINY = Fraction(1, 10**2990)

# By hand, in the order of WAYS.
TOLD = {
    (0, 1): (0, 0, 0, 0, 0),
    (1, 4): (0, 0, 0, 1, 0),
    (1, 2): (0, 1, 0, 1, 0),
    (3, 4): (1, 1, 0, 1, 0),
    (1, 1): (1, 1, 1, 1, 1),
    (5, 4): (1, 1, 1, 2, 1),
    (3, 2): (2, 2, 1, 2, 1),
    (7, 4): (2, 2, 1, 2, 1),
    (5, 2): (2, 3, 2, 3, 2),
    (7, 2): (4, 4, 3, 4, 3),
    (-1, 4): (0, 0, 0, 0, -1),
    (-1, 2): (0, -1, 0, 0, -1),
    (-3, 4): (-1, -1, 0, 0, -1),
    (-1, 1): (-1, -1, -1, -1, -1),
    (-5, 4): (-1, -1, -1, -1, -2),
    (-3, 2): (-2, -2, -1, -1, -2),
    (-7, 4): (-2, -2, -1, -1, -2),
    (-5, 2): (-2, -3, -2, -2, -3),
    (-7, 2): (-4, -4, -3, -3, -4),
    (-2, 3): (-1, -1, 0, 0, -1),
    (10**40 + 5, 10): (10**39, 10**39 + 1, 10**39, 10**39 + 1, 10**39),
    (-(10**40) - 15, 10): (-(10**39) - 2, -(10**39) - 2, -(10**39) - 1, -(10**39) - 1, -(10**39) - 2),
}


class Ways(unittest.TestCase):
    def test_the_five(self):
        self.assertEqual(
            (rounding.NEAREST, rounding.AWAY, rounding.ZERO, rounding.UP, rounding.DOWN),
            ("nearest", "away", "zero", "up", "down"),
        )
        for way in WAYS:
            self.assertTrue(is_way(way) is True)
            self.assertTrue(is_way(thing="".join(list(way))) is True)

    def test_of_anything(self):
        for name, thing in NOT_WAYS.items():
            with self.subTest(name):
                self.assertTrue(is_way(thing) is False)


class ToWhole(unittest.TestCase):
    def check(self, fraction):
        for way in WAYS:
            told = to_whole(fraction.numerator, fraction.denominator, way=way)
            # Not assertEqual: Python would not show numbers of so many figures.
            self.assertTrue(told == by_hand.whole(fraction, way), way)
            self.assertTrue(type(told) is int)

    def test_by_hand(self):
        for (numerator, denominator), wanted in TOLD.items():
            told = tuple(to_whole(numerator, denominator, way=way) for way in WAYS)
            self.assertEqual(told, wanted, (numerator, denominator))

    def test_at_half_way_and_beside_it(self):
        for floor in (-1001, -1000, -4, -3, -2, -1, 0, 1, 2, 3, 1000, 1001, 10**9, 10**9 + 1):
            for part in (0, Fraction(1, 4), Fraction(1, 3), Fraction(1, 2), Fraction(3, 4)):
                for beside in (0, TINY, -TINY, Fraction(1, 10**6), Fraction(-1, 10**6)):
                    self.check(floor + part + beside)

    def test_around_0(self):
        for fraction in (Fraction(0), TINY, -TINY, Fraction(1, 2) - TINY, TINY - Fraction(1, 2)):
            self.check(fraction)
        self.assertEqual([to_whole(1, 10**3000, way=way) for way in WAYS], [0, 0, 0, 1, 0])
        self.assertEqual([to_whole(-1, 10**3000, way=way) for way in WAYS], [0, 0, 0, 0, -1])

    def test_each_small_fraction(self):
        for numerator in range(-60, 61):
            for denominator in range(1, 13):
                for way in WAYS:
                    told = to_whole(numerator, denominator, way=way)
                    self.assertEqual(told, by_hand.whole(Fraction(numerator, denominator), way))

    def test_not_in_lowest_terms(self):
        for (numerator, denominator), wanted in TOLD.items():
            for more in (2, 3, 10, 2**40, 10**2900):
                told = tuple(to_whole(numerator * more, denominator * more, way=way) for way in WAYS)
                self.assertTrue(told == wanted, (numerator, denominator))

    def test_at_the_bounds(self):
        most = 10**3000
        for way in WAYS:
            self.assertTrue(to_whole(most - 1, way=way) == most - 1)
            self.assertTrue(to_whole(1 - most, way=way) == 1 - most)
            self.assertTrue(to_whole(most - 1, most, way=way) == (0 if way in ("zero", "down") else 1))
            self.assertTrue(to_whole(1 - most, most, way=way) == (0 if way in ("zero", "up") else -1))
            self.assertTrue(to_whole(most - 1, most - 1, way=way) == 1)
            self.assertTrue(to_whole(0, most, way=way) == 0)
            self.check(Fraction(most - 1, 2))
            self.check(Fraction(1 - most, 2))

    def test_beyond_the_bounds(self):
        most = 10**3000
        for numerator in (most, -most, most + 1, 10**3999, -(10**3999)):
            refused(self, "numerator", to_whole, numerator)
            refused(self, "numerator", to_whole, numerator, most)
        for denominator in (0, -1, -most, most + 1, 10**3999):
            refused(self, "denominator", to_whole, 0, denominator)
            refused(self, "denominator", to_whole, most - 1, denominator, way="up")

    def test_by_place_by_name_and_left_out(self):
        self.assertEqual(to_whole(7), 7)
        self.assertEqual(to_whole(5, 2), 2)
        self.assertEqual(to_whole(numerator=7, denominator=2), 4)
        self.assertEqual(to_whole(way="down", denominator=2, numerator=7), 3)
        self.assertEqual(to_whole(-7, denominator=2, way="up"), -3)
        with self.assertRaises(TypeError):
            to_whole(7, 2, "up")


if __name__ == "__main__":
    unittest.main()
