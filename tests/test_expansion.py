import unittest
from unittest.mock import ANY

from digitway.numbers import Number, greatest
from digitway.reading import read
from digitway.shapes import DOUBLE, HALF
from digitway.writing import Expansion

from tests import by_hand
from tests.things import ANYTHING, OWN, SHAPES, Agreeable, edge_numbers, refused


def figures_by_hand(number, many):
    """The power of the first figure and so many figures, one by one."""
    rest = abs(by_hand.value(number))
    first = by_hand.tens_of(rest) if rest else 0
    told = []
    for place in range(many):
        figure = rest // by_hand.ten(first - place)
        rest -= figure * by_hand.ten(first - place)
        told.append(int(figure))
    return first, told, rest == 0


class Figures(unittest.TestCase):
    def test_at_the_edges_of_each_shape(self):
        for shape in SHAPES:
            for number in edge_numbers(shape):
                first, told, over = figures_by_hand(number, 30)
                expansion = Expansion(number)
                self.assertEqual(expansion.tens(), first)
                self.assertEqual(expansion.take(30), told)
                self.assertTrue(expansion.is_over() is over)
                self.assertEqual((expansion.tens(), expansion.taken()), (first - 30, 30))

    def test_all_figures_make_up_the_value(self):
        for shape in SHAPES:
            for number in (Number(shape, significand=1), greatest(shape), greatest(shape, sign=1)):
                expansion = Expansion(number)
                first = expansion.tens()
                told = expansion.take(2000)
                self.assertTrue(expansion.is_over() is True)
                self.assertNotEqual(told[0], 0)
                value = int("".join(map(str, told))) * by_hand.ten(first - 1999)
                self.assertTrue(value == abs(by_hand.value(number)))

    def test_by_hand(self):
        for text, first, told in (
            ("0.1", -1, [1, 0, 0, 0, 0, 0, 0, 0, 0, 0, 0, 0, 0, 0, 0, 0, 0, 5, 5, 5, 1, 1, 1, 5]),
            ("12.5", 1, [1, 2, 5, 0, 0, 0]),
            ("-12.5", 1, [1, 2, 5, 0, 0, 0]),
            ("1", 0, [1, 0, 0]),
            ("10", 1, [1, 0, 0]),
            ("9", 0, [9, 0]),
            ("1000", 3, [1, 0, 0, 0, 0]),
            ("1e22", 22, [1] + [0] * 30),
            ("0.0625", -2, [6, 2, 5, 0]),
            ("105", 2, [1, 0, 5, 0]),
            ("5e-324", -324, [4, 9, 4, 0, 6, 5, 6, 4, 5, 8, 4, 1, 2, 4, 6, 5, 4]),
            ("1.7976931348623157e308", 308, [1, 7, 9, 7, 6, 9, 3, 1, 3, 4, 8, 6, 2, 3, 1, 5, 7, 0, 8, 1]),
        ):
            expansion = Expansion(read(text)[0])
            self.assertEqual(expansion.tens(), first)
            self.assertEqual(expansion.take(len(told)), told)

    def test_where_it_is_over(self):
        for text, many in (("12.5", 3), ("1000", 1), ("105", 3), ("-0.375", 3), ("1", 1)):
            expansion = Expansion(read(text)[0])
            for place in range(many):
                self.assertTrue(expansion.is_over() is False, (text, place))
                expansion.take()
            for place in range(5):
                self.assertTrue(expansion.is_over() is True)
                self.assertEqual(expansion.take(), [0])
            self.assertEqual(expansion.take(2000), [0] * 2000)

    def test_least_double_is_over_at_its_last_figure(self):
        expansion = Expansion(Number(DOUBLE, significand=1))
        expansion.take(750)
        self.assertTrue(expansion.is_over() is False)
        self.assertEqual((expansion.take(), expansion.is_over()), ([5], True))

    def test_zeros(self):
        for shape in SHAPES:
            for sign in (0, 1):
                expansion = Expansion(Number(shape, sign=sign))
                self.assertEqual((expansion.tens(), expansion.taken()), (0, 0))
                self.assertTrue(expansion.is_over() is True)
                self.assertEqual(expansion.take(5), [0] * 5)
                self.assertEqual((expansion.tens(), expansion.taken()), (-5, 5))
                self.assertTrue(expansion.is_over() is True)
                self.assertEqual(expansion.take(2000), [0] * 2000)
                self.assertEqual(expansion.tens(), -2005)

    def test_in_pieces_and_at_once(self):
        for number in (greatest(), Number(significand=1), read("0.1")[0], read("-123456.789")[0], greatest(HALF)):
            whole = Expansion(number)
            first, told = whole.tens(), whole.take(1200)
            for pieces in ([1] * 1200, [0, 3, 0, 7, 190, 1000, 0], [600, 600], [1199, 1], [17] * 70 + [10]):
                expansion, got, seen = Expansion(number), [], []
                for many in pieces:
                    seen.append(expansion.tens())
                    piece = expansion.take(many)
                    self.assertEqual(len(piece), many)
                    got += piece
                self.assertEqual(got, told)
                self.assertEqual((expansion.taken(), expansion.tens()), (1200, first - 1200))
                self.assertEqual(seen, [first - sum(pieces[:at]) for at in range(len(pieces))])

    def test_without_end(self):
        expansion = Expansion(read("0.1")[0])
        for _ in range(20):
            expansion.take(2000)
        self.assertEqual((expansion.taken(), expansion.tens(), expansion.is_over()), (40000, -40001, True))

    def test_figures_are_whole_numbers(self):
        for figure in Expansion(greatest()).take(400):
            self.assertTrue(type(figure) is int and 0 <= figure <= 9)


class Taking(unittest.TestCase):
    def test_defaults_and_names(self):
        expansion = Expansion(number=read("12.5")[0])
        self.assertEqual(expansion.take(), [1])
        self.assertEqual(expansion.take(many=2), [2, 5])
        self.assertEqual(expansion.take(0), [])
        self.assertEqual((expansion.taken(), expansion.tens()), (3, -2))

    def test_what_is_told_is_the_askers_own(self):
        expansion = Expansion(read("0.1")[0])
        other = expansion.copy()
        told = expansion.take(20)
        told.clear()
        nothing = expansion.take(0)
        nothing.append(5)
        self.assertEqual(expansion.take(0), [])
        self.assertEqual(expansion.take(4), [1, 1, 1, 5])
        self.assertEqual(other.take(18)[-1], 5)

    def test_a_refusal_changes_nothing(self):
        expansion = Expansion(read("12.5")[0])
        expansion.take()
        for many in (-1, 2001, True, None, "1", 10**3999, -(10**3999), [1]):
            refused(self, "many", expansion.take, many)
            refused(self, "many", expansion.take, many=many)
        self.assertEqual((expansion.taken(), expansion.tens()), (1, 0))
        self.assertEqual(expansion.take(2), [2, 5])

    def test_the_number_stays(self):
        number = read("-0.1")[0]
        Expansion(number).take(50)
        self.assertTrue(number == read("-0.1")[0])


class Copies(unittest.TestCase):
    def test_each_goes_on_by_itself(self):
        one = Expansion(read("123.5")[0])
        one.take(2)
        other = one.copy()
        self.assertTrue(type(other) is Expansion)
        self.assertEqual((other.taken(), other.tens(), other.is_over()), (2, 0, False))
        self.assertEqual(other.take(2), [3, 5])
        self.assertEqual((one.taken(), one.is_over()), (2, False))
        self.assertEqual(one.take(1), [3])
        self.assertEqual((other.taken(), other.is_over()), (4, True))
        third = one.copy().copy()
        one.take(9)
        self.assertEqual((third.taken(), third.take(3)), (3, [5, 0, 0]))

    def test_of_each_edge(self):
        for number in edge_numbers(DOUBLE):
            one = Expansion(number)
            one.take(7)
            other = one.copy()
            self.assertTrue(one == other)
            self.assertEqual(one.take(40), other.take(40))
            self.assertEqual(one.tens(), other.tens())


class Equal(unittest.TestCase):
    def test_numbers_and_how_many_were_taken(self):
        numbers = edge_numbers(HALF)[:8] + [Number(DOUBLE), Number(DOUBLE, sign=1), read("1")[0], read("1", HALF)[0]]
        made = []
        for number in numbers:
            for many in (0, 1, 5):
                expansion = Expansion(number)
                expansion.take(many)
                made.append((number, many, expansion))
        for number, many, one in made:
            for other_number, other_many, other in made:
                same = number == other_number and many == other_many
                self.assertTrue((one == other) is same)
                self.assertTrue((one != other) is not same)

    def test_taken_in_other_pieces(self):
        one, other = Expansion(read("0.3")[0]), Expansion(read("0.3")[0])
        one.take(12)
        self.assertFalse(one == other)
        other.take(5)
        other.take(0)
        other.take(7)
        self.assertTrue(one == other)

    def test_like_values_of_unlike_shapes(self):
        self.assertFalse(Expansion(read("1")[0]) == Expansion(read("1", HALF)[0]))
        self.assertFalse(Expansion(read("1")[0]) == Expansion(read("-1")[0]))

    def test_unlike_whatever_is_none(self):
        expansion = Expansion(Number())
        for name, thing in {**ANYTHING, "number": Number(), "decimal": OWN["decimal"]}.items():
            with self.subTest(name):
                self.assertTrue((expansion == thing) is False)
                self.assertTrue((expansion != thing) is True)
        for thing in (ANY, Agreeable(), [], [0], 0):
            self.assertTrue((expansion == thing) is False)
            self.assertTrue((expansion != thing) is True)


if __name__ == "__main__":
    unittest.main()
