import unittest

from digitway.decimals import Decimal
from digitway.numbers import Number, by_rank, greatest, infinite
from digitway.reading import read
from digitway.shapes import DOUBLE, HALF, SINGLE
from digitway.writing import with_figures, with_places

from tests import by_hand
from tests.things import SHAPES, SMALL_SHAPES, WAYS, edge_numbers, refused

SOME = [
    read(text, shape)[0]
    for text in ("0.1", "-0.1", "9.5", "-9.5", "99.96", "-0.000999", "123456", "1e22", "-6.5e-5", "2.5", "0.25", "1e3")
    for shape in (HALF, SINGLE, DOUBLE, (64, -1100, 1000))
    if read(text, shape)[0].kind() != "infinite"
]


class Case(unittest.TestCase):
    def check_pair(self, told, wanted, about):
        self.assertTrue(type(told) is tuple and len(told) == 2 and type(told[1]) is tuple)
        # Not assertEqual on the numbers: they may have too many figures to be told in a message.
        self.assertTrue(told[0] == wanted[0], about)
        self.assertEqual(told[1], wanted[1], about)


class Figures(Case):
    def check(self, number, many):
        for way in WAYS:
            told = with_figures(number, many, way=way)
            self.check_pair(told, by_hand.with_figures(number, many, way), (str(number), many, way))
            if number.kind() != "zero":
                self.assertEqual(len(told[0]), many)

    def test_some(self):
        for number in SOME:
            for many in (1, 2, 3, 4, 5, 6, 7, 16, 17, 18, 25, 60, 799, 800):
                self.check(number, many)

    def test_at_the_edges_of_each_shape(self):
        for shape in SHAPES:
            for number in edge_numbers(shape)[::3] + [greatest(shape), greatest(shape, sign=1)]:
                for many in (1, 3, 21, 800):
                    self.check(number, many)

    def test_all_of_small_shapes(self):
        for shape in SMALL_SHAPES:
            last = infinite(shape).rank()
            for rank in range(1 - last, last):
                for many in (1, 2, 3):
                    self.check(by_rank(rank, shape), many)

    def test_by_hand(self):
        for text, many, wanted in (
            ("2.5", 1, ["2e0", "3e0", "2e0", "3e0", "2e0"]),
            ("-2.5", 1, ["-2e0", "-3e0", "-2e0", "-2e0", "-3e0"]),
            ("3.5", 1, ["4e0", "4e0", "3e0", "4e0", "3e0"]),
            ("9.5", 1, ["1e1", "1e1", "9e0", "1e1", "9e0"]),
            ("-9.5", 1, ["-1e1", "-1e1", "-9e0", "-9e0", "-1e1"]),
            ("99.5", 2, ["10e1", "10e1", "99e0", "10e1", "99e0"]),
            ("999.96875", 4, ["1000e0", "1000e0", "9999e-1", "1000e0", "9999e-1"]),
            ("0.09375", 1, ["9e-2", "9e-2", "9e-2", "1e-1", "9e-2"]),
        ):
            for way, told in zip(WAYS, wanted):
                decimal, flags = with_figures(read(text)[0], many, way=way)
                self.assertEqual((str(decimal), flags), (told, ("inexact",)), (text, way))

    def test_exact_ones(self):
        for text, many, told in (
            ("2.5", 2, "25e-1"),
            ("2.5", 4, "2500e-3"),
            ("1", 1, "1e0"),
            ("-1000", 1, "-1e3"),
            ("1000", 4, "1000e0"),
            ("1000", 3, "100e1"),
            ("-0.125", 3, "-125e-3"),
            ("9", 1, "9e0"),
        ):
            for way in WAYS:
                decimal, flags = with_figures(read(text)[0], many, way=way)
                self.assertEqual((str(decimal), flags), (told, ()))

    def test_zeros(self):
        for shape in SHAPES:
            for sign in (0, 1):
                for many in (1, 17, 800):
                    for way in WAYS:
                        told = with_figures(Number(shape, sign=sign), many, way=way)
                        self.check_pair(told, (Decimal(0, 0, sign=sign), ()), shape)

    def test_as_the_machine_writes_them(self):
        for plain in (0.1, 1 / 3, 2.5, 1e22, 1e23, 5e-324, 1.7976931348623157e308, 123.456, 9.995, 0.5):
            number = read(repr(plain))[0]
            for many in (1, 2, 3, 10, 17, 30, 100):
                figures, power = f"{plain:.{many - 1}e}".replace(".", "").split("e")
                decimal, flags = with_figures(number, many)
                self.assertEqual(str(decimal), f"{figures}e{int(power) - many + 1}")

    def test_bounds(self):
        for many in (0, -1, 801, 10**3999, -(10**3999)):
            refused(self, "many", with_figures, Number(), many)
            refused(self, "many", with_figures, greatest(), many)

    def test_arguments(self):
        tenth = read("0.1")[0]
        seventeen = "10000000000000001e-17"
        for told in (with_figures(tenth), with_figures(number=tenth), with_figures(tenth, 17),
                     with_figures(tenth, many=17, way="nearest")):
            self.assertEqual((str(told[0]), told[1]), (seventeen, ("inexact",)))
        self.assertEqual(str(with_figures(way="up", many=2, number=tenth)[0]), "11e-2")
        with self.assertRaises(TypeError):
            with_figures(tenth, 17, "up")
        self.assertEqual(str(tenth), "7205759403792794p-56")


class Places(Case):
    def check(self, number, places):
        for way in WAYS:
            told = with_places(number, places, way=way)
            self.check_pair(told, by_hand.with_power(number, -places, way), (str(number), places, way))
            self.assertEqual(told[0].tens(), -places)
            self.assertEqual(told[0].sign(), number.sign())

    def test_some(self):
        for number in SOME:
            for places in (-400, -399, -23, -22, -5, -3, -2, -1, 0, 1, 2, 3, 5, 17, 60, 1199, 1200):
                self.check(number, places)

    def test_at_the_edges_of_each_shape(self):
        for shape in SHAPES:
            for number in edge_numbers(shape)[::3] + [greatest(shape), greatest(shape, sign=1)]:
                for places in (-400, -300, -1, 0, 4, 330, 1200):
                    self.check(number, places)

    def test_all_of_small_shapes(self):
        for shape in SMALL_SHAPES:
            last = infinite(shape).rank()
            for rank in range(1 - last, last):
                for places in (-2, -1, 0, 1):
                    self.check(by_rank(rank, shape), places)

    def test_by_hand(self):
        for text, places, wanted in (
            ("2.5", 0, ["2e0", "3e0", "2e0", "3e0", "2e0"]),
            ("-2.5", 0, ["-2e0", "-3e0", "-2e0", "-2e0", "-3e0"]),
            ("9.5", 0, ["10e0", "10e0", "9e0", "10e0", "9e0"]),
            ("-9.75", 1, ["-98e-1", "-98e-1", "-97e-1", "-97e-1", "-98e-1"]),
            ("0.5", 0, ["0e0", "1e0", "0e0", "1e0", "0e0"]),
            ("-0.5", 0, ["-0e0", "-1e0", "-0e0", "-0e0", "-1e0"]),
            ("0.125", 0, ["0e0", "0e0", "0e0", "1e0", "0e0"]),
            ("-0.125", 0, ["-0e0", "-0e0", "-0e0", "-0e0", "-1e0"]),
            ("25", -1, ["2e1", "3e1", "2e1", "3e1", "2e1"]),
            ("-4", -1, ["-0e1", "-0e1", "-0e1", "-0e1", "-1e1"]),
            ("1e22", -400, ["0e400", "0e400", "0e400", "1e400", "0e400"]),
        ):
            for way, told in zip(WAYS, wanted):
                decimal, flags = with_places(read(text)[0], places, way=way)
                self.assertEqual((str(decimal), flags), (told, ("inexact",)), (text, way))

    def test_exact_ones(self):
        for text, places, told in (
            ("2.5", 1, "25e-1"),
            ("2.5", 3, "2500e-3"),
            ("-1000", 0, "-1000e0"),
            ("1000", -2, "10e2"),
            ("1000", -3, "1e3"),
            ("7", 2, "700e-2"),
        ):
            for way in WAYS:
                decimal, flags = with_places(read(text)[0], places, way=way)
                self.assertEqual((str(decimal), flags), (told, ()))

    def test_all_figures_of_the_least_and_the_greatest(self):
        for shape in SHAPES:
            for number in (Number(shape, significand=1), greatest(shape), greatest(shape, sign=1)):
                decimal, flags = with_places(number, 1200)
                self.assertEqual(flags, ())
                self.assertTrue(by_hand.value(decimal) == by_hand.value(number))

    def test_zeros(self):
        for shape in SHAPES:
            for sign in (0, 1):
                for places in (-400, -1, 0, 1, 1200):
                    for way in WAYS:
                        told = with_places(Number(shape, sign=sign), places, way=way)
                        self.check_pair(told, (Decimal(0, -places, sign=sign), ()), shape)

    def test_as_the_machine_writes_them(self):
        for plain in (0.1, 1 / 3, 2.5, 1e22, 1e23, 5e-324, 123.456, 9.995, 0.5, 1.005):
            for places in (0, 1, 2, 3, 10, 30, 400):
                decimal, flags = with_places(read(repr(plain))[0], places)
                self.assertEqual(decimal.digits(), int(f"{plain:.{places}f}".replace(".", "")))

    def test_bounds(self):
        for places in (-401, 1201, 10**3999, -(10**3999)):
            refused(self, "places", with_places, Number(), places)
            refused(self, "places", with_places, greatest(), places)

    def test_arguments(self):
        number = read("-2.75")[0]
        for told in (with_places(number), with_places(number=number), with_places(number, 0),
                     with_places(number, places=0, way="nearest")):
            self.assertEqual((str(told[0]), told[1]), ("-3e0", ("inexact",)))
        self.assertEqual(str(with_places(way="up", places=1, number=number)[0]), "-27e-1")
        with self.assertRaises(TypeError):
            with_places(number, 0, "up")
        self.assertTrue(number == read("-2.75")[0])


if __name__ == "__main__":
    unittest.main()
