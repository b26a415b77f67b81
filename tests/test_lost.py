"""Numbers that are lost with so many figures, and how many are enough."""

import unittest
from itertools import product

from digitway.numbers import by_rank, greatest
from digitway.shapes import DOUBLE, HALF, SINGLE
from digitway.sure import enough, first_lost
from digitway.writing import reads_back, with_figures

from tests import by_hand
from tests.things import BOUND_SHAPES, SMALL_SHAPES

SMALL = SMALL_SHAPES + ((7, -10, 10), (8, -30, -20), (2, -30, 30), (3, -40, 40), (9, 0, 12), (4, -60, 60), (8, -5, 3))


def is_lost(number, many):
    """[59], by hand: whether its decimal with so many figures is beyond its bounds."""
    told, flags = by_hand.with_figures(number, many, "nearest")
    least, most, closed = by_hand.bounds(number)
    size = abs(by_hand.value(told))
    return not (least <= size <= most if closed else least < size < most)


def searched(shape, many):
    """The first lost one, by all numbers."""
    for rank in range(1, greatest(shape).rank() + 1):
        number = by_rank(rank, shape)
        if is_lost(number, many):
            return number
    return None


class Small(unittest.TestCase):
    def test_against_all_numbers(self):
        found = {True: 0, False: 0}
        for shape, many in product(SMALL, (1, 2, 3, 4, 5)):
            wanted = searched(shape, many)
            told = first_lost(shape, many)
            found[told is None] += 1
            if wanted is None:
                self.assertIsNone(told, (shape, many))
            else:
                self.assertTrue(told == wanted, (shape, many, told, wanted))
        self.assertTrue(min(found.values()) > 10, found)

    def test_an_even_one_at_a_half_way_is_not_lost(self):
        # 10016 is 1252p3, and 10020 is half way to 1253p3: it is read as the even one.
        told = first_lost((11, 0, 5), 4)
        self.assertTrue(told == searched((11, 0, 5), 4))
        self.assertEqual(str(told), "1253p3")

    def test_enough_against_all_numbers(self):
        for shape in SMALL:
            wanted = min(many for many in range(1, 10) if searched(shape, many) is None)
            told = enough(shape)
            self.assertTrue(type(told) is int)
            self.assertEqual(told, wanted, shape)

    def test_each_number_of_half(self):
        numbers = [by_rank(rank, HALF) for rank in range(1, greatest(HALF).rank() + 1)]
        for many in range(1, 6):
            lost = [number for number in numbers if not reads_back(number, with_figures(number, many)[0])]
            told = first_lost(HALF, many)
            if lost:
                self.assertTrue(told == lost[0], many)
            else:
                self.assertIsNone(told)


class Great(unittest.TestCase):
    def check(self, shape, many):
        """The first lost one is lost, of sign 0, and those of the ranks just ahead of it aren't."""
        told = first_lost(shape, many)
        if told is None:
            return None
        self.assertEqual((told.shape(), told.sign()), (shape, 0))
        self.assertTrue(is_lost(told, many), (shape, many))
        for back in range(1, 40):
            if told.rank() > back:
                self.assertFalse(is_lost(by_rank(told.rank() - back, shape), many))
        return told

    def test_enough_of_the_common_shapes(self):
        self.assertEqual([enough(shape) for shape in (HALF, SINGLE, DOUBLE)], [5, 9, 17])
        self.assertEqual(enough(shape=DOUBLE), 17)

    def test_enough_at_the_bounds(self):
        for shape in BOUND_SHAPES + ((63, -1100, 1000), (33, -1100, 1000)):
            many = enough(shape)
            self.assertIsNone(first_lost(shape, many))
            self.assertTrue(many <= 21)
            for fewer in range(1, many):
                self.assertIsNotNone(self.check(shape, fewer), (shape, fewer))
        self.assertEqual(enough((64, -1100, 1000)), 21)

    def test_none_with_more_than_enough(self):
        for shape in (HALF, SINGLE, DOUBLE, (64, -1100, 1000)):
            for many in range(enough(shape), 31):
                self.assertIsNone(first_lost(shape, many))

    def test_the_first_of_the_common_shapes(self):
        for shape, most in ((HALF, 4), (SINGLE, 8), (DOUBLE, 16)):
            for many in range(1, most + 1):
                self.assertIsNotNone(self.check(shape, many))

    def test_those_ahead_are_not_lost(self):
        # Few enough of them to be looked at one by one.
        for shape, many in ((SINGLE, 1), (SINGLE, 2), (SINGLE, 3), (DOUBLE, 2), (DOUBLE, 3), ((64, -1100, 1000), 3)):
            told = first_lost(shape, many)
            self.assertTrue(told.rank() < 20000)
            self.assertTrue(is_lost(told, many))
            for rank in range(1, told.rank()):
                self.assertFalse(is_lost(by_rank(rank, shape), many))

    def test_names_and_kinds(self):
        self.assertTrue(first_lost(many=4, shape=HALF) == first_lost(HALF, 4))
        self.assertIsNone(first_lost(shape=HALF, many=5))

    def test_powers_of_two_that_are_lost(self):
        # The number below a power of two is nearer to it: such a one alone may be lost.
        alone = 0
        for precision, low in product((2, 3, 4, 5), (-20, -9, -4, 0)):
            for many in (1, 2):
                shape = (precision, low, low + 12)
                wanted = searched(shape, many)
                told = first_lost(shape, many)
                self.assertTrue(told == wanted)
                alone += wanted is not None and wanted.parts()[0] == 2 ** (precision - 1)
        self.assertTrue(alone > 0)


if __name__ == "__main__":
    unittest.main()
