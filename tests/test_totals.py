"""Totals of columns, and rows that are rounded twice otherwise."""

import unittest
from fractions import Fraction
from itertools import permutations, product

from digitway.columns import Column
from digitway.numbers import Number, greatest, infinite, nan
from digitway.reading import read
from digitway.shapes import DOUBLE, HALF, SINGLE

from tests import by_hand
from tests.things import BOUND_SHAPES, NOT_SHAPES, NOT_WAYS, SMALL_SHAPES, WAYS, refused

LISTS = (
    (),
    ("1",),
    ("0.1", "0.2", "0.3"),
    ("1e300", "1", "-1e300"),
    ("1e308", "1e308", "-1e308"),
    ("1.7976931348623157e308", "1.7976931348623157e308"),
    ("1e-320", "-1e-322", "5e-324"),
    ("1e-5", "1e5", "-1e5", "-1e-5"),
    ("0.1", "-0.1"),
    ("-0.1", "-0.2"),
    ("9007199254740993", "1e-300"),
    ("9007199254740992", "1", "1e-300"),
    ("9007199254740992", "1"),
    ("2.5", "-0", "0"),
)


def total_by_hand(column, shape, way):
    """[68], of finite rows."""
    values = [by_hand.value(number) for number in column.numbers()]
    signs = [number.sign() for number in column.numbers() if number.kind() == "zero"]
    sign = 1 if values and signs == [1] * len(values) else 0
    return by_hand.rounded(sum(values, Fraction(0)), shape, way, sign)


class Totals(unittest.TestCase):
    def test_exact_sums(self):
        for texts, shape, way in product(LISTS, (HALF, SINGLE, DOUBLE, (2, 0, 0), (64, -1100, 1000)), WAYS):
            column = Column(DOUBLE, texts=texts)
            told = column.total(shape=shape, way=way)
            self.assertTrue(type(told) is tuple)
            self.assertEqual(told, total_by_hand(column, shape, way), (texts, shape, way))

    def test_by_its_own_shape_and_way(self):
        for texts, shape, way in product(LISTS, (SINGLE, DOUBLE), WAYS):
            column = Column(DOUBLE, texts=texts)
            column.turn(shape=shape, way=way)
            self.assertEqual(column.total(), total_by_hand(column, shape, way))
            self.assertEqual(column.total(shape=HALF), total_by_hand(column, HALF, way))
            self.assertEqual(column.total(way="up"), total_by_hand(column, shape, "up"))
            self.assertEqual(column.total(shape=None, way=None), column.total())

    def test_in_any_order(self):
        texts = ("1e300", "1", "-1e300", "1e-300", "0.1")
        told = {str(Column(texts=order).total()) for order in permutations(texts)}
        self.assertEqual(told, {str(Column(texts=texts).total())})

    def test_rows_of_several_shapes(self):
        for shape, way in product(SMALL_SHAPES + BOUND_SHAPES, WAYS):
            column = Column(HALF, way=way, texts=["0.1", "-3"])
            column.tell_within(["0.1", "1e-40"], shape=SINGLE)
            column.tell_within(["0.1", "1e-330", "-1e300", "1e300"], shape=(64, -1100, 1000))
            self.assertEqual(column.total(shape=shape), total_by_hand(column, shape, way))

    def test_great_and_small_numbers_that_cancel(self):
        column = Column(texts=["1e308", "1e-308", "-1e308"])
        self.assertEqual(column.total(), read("1e-308")[:1] + ((),))
        column = Column(texts=["1e308", "1e308", "-1e308", "-1e308"])
        self.assertEqual(column.total(), (Number(), ()))
        column = Column(texts=["1e308", "1e308"])
        self.assertEqual(column.total(), (infinite(), ("inexact", "overflow")))
        self.assertEqual(column.total(way="zero"), (greatest(), ("inexact", "overflow")))
        self.assertEqual(Column(texts=["1e308"] * 300).total(way="down"), (greatest(), ("inexact", "overflow")))

    def test_300_rows(self):
        for texts in (["0.1"] * 300, ["1e308", "-1e308"] * 150, ["-0"] * 300, ["-0"] * 299 + ["0"]):
            column = Column(texts=texts)
            self.assertEqual(column.total(), total_by_hand(column, DOUBLE, "nearest"))

    def test_noughts(self):
        for shape, way in product((HALF, DOUBLE, (2, 0, 0)), WAYS):
            for texts, sign in (
                ((), 0),
                (("0",), 0),
                (("-0",), 1),
                (("-0", "-0", "-0.0e5"), 1),
                (("-0", "0"), 0),
                (("0", "-0"), 0),
                (("1", "-1"), 0),
                (("-1", "1"), 0),
                (("-0", "1", "-1"), 0),
                (("-0", "-1", "1", "-0"), 0),
            ):
                column = Column(SINGLE, texts=texts)
                self.assertEqual(column.total(shape=shape, way=way), (Number(shape, sign=sign), ()))

    def test_what_went_to_nought(self):
        # Rows whose texts are less than 0, but whose numbers are the nought of sign 1.
        column = Column(HALF, texts=["-1e-9", "-0"])
        self.assertEqual(column.total(), (Number(HALF, sign=1), ()))

    def test_not_finite(self):
        cases = (
            (("nan",), nan(SINGLE)),
            (("1", "nan", "inf"), nan(SINGLE)),
            (("inf", "-inf"), nan(SINGLE)),
            (("-inf", "5", "inf"), nan(SINGLE)),
            (("nan", "inf", "-inf"), nan(SINGLE)),
            (("inf",), infinite(SINGLE)),
            (("inf", "-1e30", "inf"), infinite(SINGLE)),
            (("1e30", "-inf", "-inf"), infinite(SINGLE, sign=1)),
            (("0.1", "1e9999"), infinite(SINGLE)),
        )
        for texts, wanted in cases:
            for way in WAYS:
                column = Column(DOUBLE, texts=texts)
                self.assertEqual(column.total(shape=SINGLE, way=way), (wanted, ()))
                self.assertEqual(Column(SINGLE, texts=texts).total(way=way), (wanted, ()))
        column = Column(HALF, texts=["inf"])
        column.tell_within(["-inf"])
        column.tell_within(["1"], shape=DOUBLE)
        self.assertEqual(column.total(), (nan(HALF), ()))

    def test_refused(self):
        column = Column(texts=["1"])
        for name, thing in NOT_SHAPES.items():
            if thing is not None:
                for call in (column.total, column.turned):
                    refused(self, "shape", call, shape=thing)
                    refused(self, "shape", call, way=[], shape=thing)
            refused(self, "shape", column.twice, thing)
            refused(self, "shape", column.twice, shape=thing, way=[])
        for name, thing in NOT_WAYS.items():
            if thing is not None:
                for call in (column.total, column.turned):
                    refused(self, "way", call, way=thing)
                    refused(self, "way", call, shape=HALF, way=thing)
                refused(self, "way", column.twice, HALF, way=thing)
        self.assertTrue(column == Column(texts=["1"]))


def twice_by_hand(column, shape, way):
    """[68], row by row."""
    found = []
    for at, number in enumerate(column.numbers()):
        text = column.row_told(at)[0]
        if number.kind() == "nan":
            again = nan(shape)
        elif number.kind() == "infinite":
            again = infinite(shape, sign=number.sign())
        else:
            again = by_hand.rounded(by_hand.value(number), shape, way, number.sign())[0]
        if not by_hand.read(text, shape, way)[0] == again:
            found.append(at)
    return found


class Twice(unittest.TestCase):
    TEXTS = (
        "1", "0.1", "nan", "inf", "-inf", "70000", "-70000", "1e-9", "-1e-9", "-0", "1e400", "1e-400",
        # Half way of HALF, and so little more that it goes lost in SINGLE.
        "1.00048828125", "1.000488281250000001", "-1.000488281250000001", "1.000488281249999999",
        # The same of SINGLE and DOUBLE.
        "1.000000059604644775390625", "1.0000000596046447753906250000001",
    )

    def test_against_reading_twice(self):
        found = set()
        for own, shape in product((HALF, SINGLE, DOUBLE, (2, 0, 0)), repeat=2):
            for own_way, way in product(WAYS, (None,) + WAYS):
                column = Column(own, way=own_way, texts=self.TEXTS)
                told = column.twice(shape, way=way)
                self.assertTrue(type(told) is list)
                self.assertEqual(told, twice_by_hand(column, shape, way or own_way))
                found |= set(told)
        self.assertTrue({1, 5, 6, 7, 8, 10, 11, 13, 14, 15, 17} <= found, found)
        self.assertFalse({0, 2, 3, 4, 9} & found)

    def test_as_it_stands(self):
        column = Column(SINGLE, texts=self.TEXTS)
        self.assertEqual(column.twice(SINGLE), [])
        self.assertEqual(column.twice(HALF), [13, 14])
        self.assertEqual(column.twice(shape=HALF), [13, 14])
        # What went to the infinite one of HALF is finite in DOUBLE.
        column = Column(HALF, texts=["70000", "inf", "65504", "1e999"])
        self.assertEqual(column.twice(DOUBLE), [0])
        self.assertEqual(column.twice(HALF), [])

    def test_the_sign_of_what_went_to_nought(self):
        # -1e-9 is the nought of sign 1 in HALF, and goes to that of any shape.
        column = Column(HALF, texts=["-1e-9", "-0", "0"])
        self.assertEqual(column.twice((2, 0, 0)), [])
        self.assertEqual(column.twice((2, 0, 0), way="down"), [0])
        self.assertEqual(column.twice((2, 0, 0), way="up"), [])

    def test_by_its_own_way(self):
        # In SINGLE by "up" it is the half way above it.
        column = Column(SINGLE, way="up", texts=["1.00048828124999999"])
        self.assertEqual(column.twice(HALF), [])
        self.assertEqual(column.twice(HALF, way="away"), [0])
        self.assertEqual(column.twice(HALF, way="nearest"), [])
        column.turn(way="away")
        self.assertEqual(column.twice(HALF), [0])

    def test_rows_of_several_shapes(self):
        column = Column(DOUBLE, texts=["1.000488281250000001"])
        column.tell_within(["1.000488281250000001", "1"], shape=SINGLE)
        column.tell_within(["1.000488281250000001"], shape=HALF, way="down")
        self.assertEqual(column.twice(HALF), [0, 1, 3])

    def test_none(self):
        self.assertEqual(Column().twice(HALF), [])


if __name__ == "__main__":
    unittest.main()
