"""Columns: rows that are told, go and are asked for, with their flags."""

import unittest
from itertools import product

from digitway.columns import Column
from digitway.errors import NoRow
from digitway.numbers import Number, infinite
from digitway.reading import read
from digitway.shapes import DOUBLE, HALF, SINGLE

from tests.things import NO_TEXTS, NOT_SHAPES, NOT_WAYS, NOT_WHOLE, OWN, WAYS, caught_from, refused, refused_text

TEXTS = ("0.1", "-2.5", "nan", "-inf", "1e9999", "-0", "1e-9999", "70000", "3")

WRONG = (("", 0), ("x", 0), ("1x", 1), ("1e", 2), ("infi", 3), ("1 ", 1), ("1" * 1901, 1900))


def state(column):
    """All that a column tells of itself."""
    rows = [column.row_told(at) for at in range(len(column))]
    return column.shape(), column.way(), rows, [str(one) for one in column.numbers()], column.flags()


class Telling(unittest.TestCase):
    def test_one_by_one(self):
        for shape, way in product((HALF, SINGLE, DOUBLE, (2, 0, 0)), WAYS):
            column = Column(shape, way=way)
            flags = set()
            for many, text in enumerate(TEXTS, 1):
                told = column.tell(text)
                self.assertTrue(type(told) is tuple)
                self.assertEqual(told, read(text, shape, way=way))
                flags |= set(told[1])
                self.assertEqual(len(column), many)
                self.assertEqual(column.row_told(many - 1), (text, shape, way))
                self.assertTrue(column.number(many - 1) == told[0])
                self.assertEqual(
                    column.flags(), tuple(flag for flag in ("inexact", "overflow", "underflow") if flag in flags)
                )
            self.assertEqual(column.numbers(), [read(text, shape, way=way)[0] for text in TEXTS])

    def test_at_once(self):
        for kind in (list, tuple):
            column = Column(HALF, way="up", texts=kind(TEXTS))
            other = Column(HALF, way="up")
            for text in TEXTS:
                other.tell(text=text)
            self.assertTrue(column == other)
            self.assertEqual(column.flags(), ("inexact", "overflow", "underflow"))

    def test_defaults_and_names(self):
        self.assertEqual(state(Column()), (DOUBLE, "nearest", [], [], ()))
        self.assertTrue(Column(texts=["1"], way="up", shape=HALF) == Column(HALF, way="up", texts=("1",)))
        self.assertTrue(Column() == Column(DOUBLE, way="nearest", texts=()))

    def test_a_wrong_text(self):
        for text, place in WRONG:
            column = Column(HALF, texts=["1", "0.1"])
            before = state(column)
            refused_text(self, place, column.tell, text)
            refused_text(self, place, column.tell, text=text)
            self.assertEqual(state(column), before)
            refused(self, "texts", Column, texts=["1", text])
            refused(self, "texts", Column, texts=(text,))

    def test_300_rows_and_one_more(self):
        for kind in (list, tuple):
            column = Column(texts=kind(["1"] * 300))
            self.assertEqual(len(column), 300)
            before = state(column)
            refused(self, "texts", column.tell, "0.1")
            refused_text(self, 1, column.tell, "1x")
            refused(self, "texts", column.tell_within, ["0.1"], shape=HALF)
            self.assertEqual(state(column), before)
            self.assertEqual(column.tell_within([]), [])
            self.assertEqual(column.drop(299), "1")
            self.assertEqual(column.tell("0.1"), read("0.1"))
            self.assertEqual((len(column), column.flags()), (300, ("inexact",)))
            refused(self, "texts", Column, texts=kind(["1"] * 301))
            refused(self, "texts", Column, texts=kind([5] * 301))

    def test_a_list_that_is_changed_later(self):
        texts = ["1", "2"]
        column = Column(texts=texts)
        texts[0] = "7"
        texts.append("x")
        self.assertEqual([str(one) for one in column.turned(shape=HALF).numbers()], ["1024p-10", "1024p-9"])
        told = column.numbers()
        told.append(5)
        told[0] = None
        self.assertEqual(column.numbers(), [read("1")[0], read("2")[0]])


class Within(unittest.TestCase):
    def test_told_by_another_shape_and_way(self):
        for shape, way in product((None, HALF, SINGLE), (None, "up", "zero")):
            for kind in (list, tuple):
                column = Column(DOUBLE, way="down", texts=["5"])
                told = column.tell_within(kind(TEXTS), shape=shape, way=way)
                by = (shape or DOUBLE, way or "down")
                self.assertTrue(type(told) is list)
                self.assertEqual(told, [read(text, by[0], way=by[1]) for text in TEXTS])
                self.assertEqual((column.shape(), column.way()), (DOUBLE, "down"))
                rows = [column.row_told(at) for at in range(len(column))]
                self.assertEqual(rows, [("5", DOUBLE, "down")] + [(text, *by) for text in TEXTS])
                self.assertEqual(column.tell("0.1"), read("0.1", DOUBLE, way="down"))

    def test_refused_in_the_middle(self):
        for (text, place), many in product(WRONG, range(4)):
            column = Column(DOUBLE, way="down", texts=["5"])
            ahead = ["0.1", "70000", "3"][:many]
            refused_text(self, place, column.tell_within, ahead + [text, "7"], shape=HALF, way="up")
            self.assertEqual((column.shape(), column.way(), len(column)), (DOUBLE, "down", 1 + many))
            other = Column(DOUBLE, way="down", texts=["5"])
            other.tell_within(ahead, shape=HALF, way="up")
            self.assertTrue(column == other)

    def test_of_anything_in_the_middle(self):
        for name, thing in NO_TEXTS.items():
            with self.subTest(name):
                column = Column()
                refused_text(self, 0, column.tell_within, ["1", thing], way="up")
                self.assertEqual((len(column), column.way()), (1, "nearest"))

    def test_full_in_the_middle(self):
        column = Column(texts=["1"] * 298)
        refused(self, "texts", column.tell_within, ["0.1", "2", "3", "x"], shape=HALF)
        self.assertEqual((len(column), column.shape(), column.flags()), (300, DOUBLE, ("inexact",)))
        self.assertEqual(column.row_told(299), ("2", HALF, "nearest"))
        column.drop(0)
        refused_text(self, 0, column.tell_within, ["1", "x"], shape=HALF)
        refused(self, "texts", column.tell_within, ["1"] * 100000, shape=HALF)

    def test_none_at_all(self):
        column = Column(texts=["1"])
        self.assertEqual(column.tell_within((), shape=HALF, way="up"), [])
        self.assertTrue(column == Column(texts=["1"]))

    def test_the_order_of_refusals(self):
        column = Column()
        refused(self, "texts", column.tell_within, "1", shape=5, way=5)
        refused(self, "shape", column.tell_within, ["x"], shape=5, way=5)
        refused(self, "way", column.tell_within, ["x"], shape=HALF, way=5)
        refused_text(self, 0, column.tell_within, ["x"], shape=HALF, way="up")
        self.assertTrue(column == Column())


class Rows(unittest.TestCase):
    def test_rows_that_go(self):
        column = Column(texts=["1", "2", "3", "4"])
        self.assertEqual(column.drop(1), "2")
        self.assertEqual([column.row_told(at)[0] for at in range(3)], ["1", "3", "4"])
        self.assertEqual(column.drop(place=2), "4")
        self.assertEqual(column.drop(0), "1")
        self.assertEqual((len(column), column.number(0) == read("3")[0]), (1, True))
        self.assertEqual(column.drop(0), "3")
        self.assertEqual((len(column), column.numbers()), (0, []))
        self.assertEqual(caught_from(self, NoRow, column.drop, (0,), {}).row, 0)

    def test_no_row(self):
        column = Column(texts=["1", "2"])
        wrong = {**NOT_WHOLE, "2": 2, "-1": -1, "-2": -2, "great": 10**3999, "small": -(10**3999)}
        for name, thing in wrong.items():
            for call in (column.drop, column.row_told, column.number):
                with self.subTest(name=name, call=call.__name__):
                    self.assertTrue(caught_from(self, NoRow, call, (thing,), {}).row is thing)
                    self.assertTrue(caught_from(self, NoRow, call, (), {"place": thing}).row is thing)
        self.assertTrue(column == Column(texts=["1", "2"]))

    def test_kinds(self):
        column = Column(texts=["1"])
        self.assertTrue(type(column.row_told(0)) is tuple and type(column.numbers()) is list)
        self.assertTrue(column.number(place=0) == column.numbers()[0])
        self.assertEqual(column.row_told(place=0), ("1", DOUBLE, "nearest"))

    def test_text_as_it_was_told(self):
        column = Column(texts=["+1.50e0", "00", "-.5"])
        self.assertEqual([column.drop(0) for _ in range(3)], ["+1.50e0", "00", "-.5"])


class Flags(unittest.TestCase):
    def test_whatever_became_of_the_rows(self):
        column = Column(HALF)
        self.assertEqual(column.flags(), ())
        column.tell("1e-9")
        self.assertEqual(column.flags(), ("inexact", "underflow"))
        column.drop(0)
        self.assertEqual(column.flags(), ("inexact", "underflow"))
        column.tell("1e9")
        self.assertEqual(column.flags(), ("inexact", "overflow", "underflow"))
        column.tell("1")
        self.assertEqual(column.flags(), ("inexact", "overflow", "underflow"))

    def test_settle(self):
        column = Column(HALF, texts=["1e9", "0.5"])
        self.assertEqual(column.settle(), ("inexact", "overflow"))
        self.assertEqual((column.flags(), column.settle(), len(column)), ((), (), 2))
        column.tell("1")
        self.assertEqual(column.flags(), ())
        column.tell("0.1")
        self.assertEqual((column.flags(), column.settle(), column.flags()), (("inexact",), ("inexact",), ()))

    def test_of_what_is_refused(self):
        column = Column(HALF)
        refused_text(self, 3, column.tell, "0.1x")
        refused_text(self, 0, column.tell_within, ["x", "0.1"])
        self.assertEqual(column.flags(), ())
        refused_text(self, 0, column.tell_within, ["0.1", "x", "1e9"])
        self.assertEqual(column.flags(), ("inexact",))

    def test_nothing_but_telling_makes_any(self):
        column = Column(DOUBLE, texts=["1", "70000.5"])
        column.total(shape=HALF)
        column.turned(shape=HALF)
        column.twice(HALF)
        self.assertEqual(column.flags(), ())


class Turning(unittest.TestCase):
    def test_turn(self):
        column = Column(texts=["0.1"])
        self.assertIsNone(column.turn(shape=HALF))
        self.assertEqual((column.shape(), column.way()), (HALF, "nearest"))
        self.assertIsNone(column.turn(way="up"))
        self.assertEqual((column.shape(), column.way()), (HALF, "up"))
        self.assertIsNone(column.turn())
        self.assertEqual((column.shape(), column.way()), (HALF, "up"))
        self.assertIsNone(column.turn(way="down", shape=SINGLE))
        self.assertEqual((column.shape(), column.way()), (SINGLE, "down"))
        self.assertEqual(column.tell("0.1"), read("0.1", SINGLE, way="down"))
        self.assertEqual(column.row_told(0), ("0.1", DOUBLE, "nearest"))
        self.assertTrue(column.number(0) == read("0.1")[0])

    def test_turn_is_refused(self):
        column = Column(HALF, way="up", texts=["0.1"])
        before = state(column)
        for name, thing in NOT_SHAPES.items():
            if thing is not None:
                refused(self, "shape", column.turn, shape=thing, way="down")
                refused(self, "shape", column.turn, shape=thing, way=[])
        for name, thing in NOT_WAYS.items():
            if thing is not None:
                refused(self, "way", column.turn, shape=DOUBLE, way=thing)
                refused(self, "way", column.turn, way=thing)
        self.assertEqual(state(column), before)

    def test_turned(self):
        column = Column(HALF, way="up", texts=TEXTS)
        column.settle()
        column.tell_within(["0.3"], shape=SINGLE, way="down")
        before = state(column)
        for shape, way in product((None, DOUBLE, SINGLE, (2, 0, 0)), (None,) + WAYS):
            told = column.turned(shape=shape, way=way)
            wanted = Column(shape or HALF, way=way or "up", texts=TEXTS + ("0.3",))
            self.assertTrue(type(told) is Column and told == wanted)
            self.assertEqual(state(told), state(wanted))
            told.drop(0)
            told.tell("1e-9999")
            self.assertEqual(state(column), before)
        self.assertEqual(len(Column(texts=["1"] * 300).turned(shape=HALF)), 300)

    def test_copy(self):
        column = Column(HALF, way="up", texts=TEXTS)
        column.turn(shape=SINGLE)
        other = column.copy()
        self.assertTrue(type(other) is Column and other == column)
        self.assertEqual(state(other), state(column))
        before = state(column)
        other.tell("5")
        other.drop(0)
        other.settle()
        other.turn(way="down")
        self.assertEqual(state(column), before)
        kept = state(other)
        column.drop(1)
        column.settle()
        column.story(["drop 0", "shape 11 -24 5", "tell 7"])
        self.assertEqual(state(other), kept)
        # Flags go with a copy though their rows are gone.
        column = Column(HALF, texts=["1e9"])
        column.drop(0)
        self.assertEqual(column.copy().flags(), ("inexact", "overflow"))


class Equal(unittest.TestCase):
    def test_equal(self):
        one = Column(HALF, way="up", texts=["1", "0.1"])
        self.assertTrue(one == Column(HALF, way="up", texts=["1", "0.1"]))
        self.assertFalse(one != Column(HALF, way="up", texts=["1", "0.1"]))
        others = [
            Column(SINGLE, way="up", texts=["1", "0.1"]),
            Column(HALF, way="down", texts=["1", "0.1"]),
            Column(HALF, way="up", texts=["1", "0.10"]),
            Column(HALF, way="up", texts=["0.1", "1"]),
            Column(HALF, way="up", texts=["1", "0.1", "1"]),
            Column(HALF, way="up", texts=["1"]),
        ]
        settled = one.copy()
        settled.settle()
        turned = one.copy()
        turned.turn(shape=SINGLE)
        within = Column(HALF, way="up", texts=["1"])
        within.tell_within(["0.1"], way="nearest")
        other_way = one.copy()
        other_way.turn(way="zero")
        for other in others + [settled, turned, within, other_way]:
            self.assertTrue((one == other) is False and (one != other) is True)
        # The way by which a row was told counts though the number is the same.
        within = Column(HALF, way="up", texts=["0.1"])
        within.tell_within(["1"], way="nearest")
        self.assertFalse(within == Column(HALF, way="up", texts=["0.1", "1"]))

    def test_unlike_anything_else(self):
        one = Column(texts=["1"])
        for name, thing in {**NO_TEXTS, **OWN, "its text": "1", "its texts": ["1"]}.items():
            if name != "column":
                self.assertTrue((one == thing) is False, name)

    def test_length(self):
        for many in (0, 1, 7, 300):
            self.assertEqual(len(Column(texts=["1"] * many)), many)


class Same(unittest.TestCase):
    def test_rows_of_equal_numbers(self):
        texts = ["1", "0", "1.0", "-0", "nan", "inf", "10e-1", "nan", "2", "-inf", "1e9999", "-0e5"]
        told = Column(texts=texts).same()
        self.assertEqual(told, [[0, 2, 6], [3, 11], [4, 7], [5, 10]])
        self.assertTrue(type(told) is list and all(type(one) is list for one in told))

    def test_numbers_of_unlike_shapes_are_unlike(self):
        column = Column(texts=["1", "nan", "inf"])
        column.tell_within(["1", "nan", "inf", "1"], shape=HALF)
        column.tell_within(["1"], way="up")
        self.assertEqual(column.same(), [[0, 7], [3, 6]])

    def test_none_and_all(self):
        self.assertEqual(Column().same(), [])
        self.assertEqual(Column(texts=["1", "2"]).same(), [])
        self.assertEqual(Column(texts=["5"] * 300).same(), [list(range(300))])

    def test_what_is_told_can_be_changed(self):
        column = Column(texts=["1", "1"])
        told = column.same()
        told[0].append(7)
        told.append([])
        self.assertEqual(column.same(), [[0, 1]])


class Ranked(unittest.TestCase):
    def test_by_value(self):
        texts = ["2", "nan", "-1", "inf", "0.5", "-inf", "1e-300", "-1e300", "nan", "1e300"]
        self.assertEqual(Column(texts=texts).ranked(), [5, 7, 2, 6, 4, 0, 9, 3, 1, 8])

    def test_equal_ones_as_they_are_numbered(self):
        texts = ["0", "1", "-0", "inf", "0.0", "1e9999", "-inf", "-1e9999", "nan", "-0", "nan", "1.0"]
        self.assertEqual(Column(texts=texts).ranked(), [6, 7, 0, 2, 4, 9, 1, 11, 3, 5, 8, 10])

    def test_over_several_shapes(self):
        column = Column(texts=["0.1"])
        column.tell_within(["0.1", "1", "inf"], shape=HALF)
        column.tell_within(["0.1", "1", "-0", "nan"], shape=SINGLE)
        column.tell_within(["1e-330", "0", "1e300", "-inf"], shape=(64, -1100, 1000))
        column.tell_within(["inf", "-inf"])
        self.assertEqual(column.ranked(), [11, 13, 6, 9, 8, 1, 0, 4, 2, 5, 10, 3, 12, 7])

    def test_by_each_pair(self):
        column = Column((64, -1100, 1000), texts=["1e-331", "-1e-331", "1e320", "-1e320", "3", "-3"])
        column.tell_within(["3", "2.999", "-3.001", "1e-40", "65504", "-0"], shape=SINGLE)
        numbers = column.numbers()
        told = column.ranked()
        values = [numbers[at].value() for at in told]
        self.assertEqual(sorted(told), list(range(len(column))))
        for one, other in zip(values, values[1:]):
            self.assertTrue(one[0] * other[1] <= other[0] * one[1])

    def test_none(self):
        told = Column().ranked()
        self.assertTrue(type(told) is list)
        self.assertEqual(told, [])
        self.assertEqual(Column(texts=["nan"] * 3).ranked(), [0, 1, 2])

    def test_nothing_is_changed(self):
        column = Column(texts=["2", "1"])
        column.ranked().append(5)
        column.same()
        self.assertTrue(column == Column(texts=["2", "1"]))
        self.assertTrue(column.number(0) == Number(significand=2**52, exponent=-51))
        self.assertFalse(column.number(0) == infinite())


if __name__ == "__main__":
    unittest.main()
