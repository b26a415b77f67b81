import unittest

from digitway.shapes import DOUBLE, HALF, SINGLE, is_shape, is_whole, raised

from tests.things import NOT_SHAPES, NOT_WHOLE, SHAPES


class Constants(unittest.TestCase):
    def test_constants(self):
        self.assertEqual(HALF, (11, -24, 5))
        self.assertEqual(SINGLE, (24, -149, 104))
        self.assertEqual(DOUBLE, (53, -1074, 971))
        for shape in (HALF, SINGLE, DOUBLE):
            self.assertTrue(type(shape) is tuple)
            self.assertTrue(is_shape(shape) is True)


class Whole(unittest.TestCase):
    def test_at_each_bound_and_beyond_it(self):
        for least, most in ((0, 1), (-3, 5), (-5, -3), (0, 0), (2, 64), (-(10**3000), 10**3000)):
            for thing in (least, most, (least + most) // 2):
                self.assertTrue(is_whole(thing, least, most) is True, (thing, least, most))
            for thing in (least - 1, most + 1, least - 10**3500, most + 10**3500):
                self.assertTrue(is_whole(thing, least, most) is False)

    def test_none_between_bounds_that_cross(self):
        for thing in (0, 1, 2):
            self.assertTrue(is_whole(thing, 2, 0) is False)

    def test_true_and_false_are_none(self):
        self.assertTrue(is_whole(True, 0, 1) is False)
        self.assertTrue(is_whole(False, 0, 1) is False)

    def test_of_anything(self):
        for name, thing in NOT_WHOLE.items():
            with self.subTest(name):
                self.assertTrue(is_whole(thing, -5, 5) is False)

    def test_by_names(self):
        self.assertTrue(is_whole(thing=3, least=3, most=4) is True)
        self.assertTrue(is_whole(most=4, thing=5, least=3) is False)
        self.assertTrue(is_whole(4, 3, most=4) is True)


class Shape(unittest.TestCase):
    def test_at_each_bound(self):
        for precision in (2, 3, 63, 64):
            for low in (-1100, -1099, -1, 0):
                for high in (low, low + 1, -1, 0, 1, 999, 1000):
                    shape = (precision, low, high)
                    self.assertTrue(is_shape(shape) is (high >= low), shape)

    def test_beyond_each_bound(self):
        for shape in (
            (1, 0, 0), (65, 0, 0), (0, 0, 0), (-2, 0, 0),
            (2, -1101, 0), (2, 1, 1), (2, 1, 2), (64, -1101, -1101),
            (2, 0, 1001), (2, -1100, 1001), (2, 0, -1), (2, -1100, -1101), (2, -3, -4),
        ):
            self.assertTrue(is_shape(shape) is False, shape)

    def test_those_that_other_tests_use(self):
        for shape in SHAPES:
            self.assertTrue(is_shape(shape) is True, shape)

    def test_true_and_false_in_the_place_of_a_whole_number(self):
        for shape in ((True, 0, 0), (2, False, 0), (2, 0, False), (2, 0, True), (2, True, 5), (2, -1, True)):
            self.assertTrue(is_shape(shape) is False, shape)

    def test_of_anything(self):
        for name, thing in NOT_SHAPES.items():
            with self.subTest(name):
                self.assertTrue(is_shape(thing) is False)

    def test_by_name(self):
        self.assertTrue(is_shape(thing=HALF) is True)
        self.assertTrue(is_shape(thing=list(HALF)) is False)

    def test_nothing_is_changed(self):
        thing = [11, -24, 5]
        is_shape(thing)
        is_shape((11, thing, 5))
        is_whole(thing, 0, 1)
        self.assertEqual(thing, [11, -24, 5])


class Raised(unittest.TestCase):
    # Not assertEqual: Python would not show numbers of so many figures.
    def check(self, base, many):
        self.assertTrue(raised(base, many) == base**many, f"many {many}")

    def test_small(self):
        for base in range(-12, 13):
            for many in range(40):
                self.check(base, many)

    def test_nought(self):
        self.assertEqual(raised(0, 0), 1)
        self.assertEqual(raised(5, 0), 1)
        self.assertEqual(raised(-5, 0), 1)
        self.assertEqual(raised(10**30, 0), 1)
        self.assertEqual(raised(0, 1), 0)
        self.assertEqual(raised(0, 100_000), 0)

    def test_one(self):
        self.assertEqual(raised(1, 100_000), 1)
        self.assertEqual(raised(-1, 100_000), 1)
        self.assertEqual(raised(-1, 99_999), -1)

    def test_signs(self):
        self.assertEqual(raised(-2, 3), -8)
        self.assertEqual(raised(-2, 4), 16)
        self.assertEqual(raised(-(10**30), 1), -(10**30))

    def test_greatest_powers(self):
        for base, many in (
            (2, 100_000), (-2, 100_000), (-2, 99_999), (2, 65_535), (2, 65_536),
            (10, 39_999), (-10, 39_999), (10, 20_000), (5, 57_000),
            (10**30, 1333), (-(10**30), 1333), (10**30 - 1, 1333), (10**15, 2666),
        ):
            with self.subTest(base=base, many=many):
                self.check(base, many)

    def test_by_names(self):
        self.assertEqual(raised(base=3, many=4), 81)
        self.assertEqual(raised(many=4, base=3), 81)


if __name__ == "__main__":
    unittest.main()
