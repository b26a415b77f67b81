"""Each argument of feeds and columns that is none, alone and beside others."""

import unittest

from digitway.columns import Column
from digitway.errors import BadText
from digitway.feeds import Feed
from digitway.shapes import DOUBLE, HALF

from tests.refusing import Refusals, without
from tests.things import NO_TEXTS, NOT_SHAPES, NOT_WAYS, NOT_WHOLE, refused, refused_text

NO_LISTS = {name: thing for name, thing in NOT_WHOLE.items() if not isinstance(thing, (list, tuple))}

NOT_TEXTS = {
    **without(NOT_WHOLE, "empty list", "empty tuple"),
    "a text": "1",
    "dict of texts": {"1": "2"},
    "set of texts": {"1"},
    "301 texts": ["1"] * 301,
    "301 texts of a tuple": ("1",) * 301,
    "a wrong text": ["1", "x"],
    "a wrong text ahead": ("x", "1"),
    "a long text": ["1" * 1901],
    "a number": ["1", 1],
    "bytes within": [b"1"],
    "a list within": [["1"]],
}


class Made(Refusals, unittest.TestCase):
    BAD = {"shape": NOT_SHAPES, "way": NOT_WAYS, "texts": NOT_TEXTS}
    CALLS = {
        Feed: ({"shape": HALF, "way": "up"}, 1),
        Column: ({"shape": HALF, "way": "up", "texts": ["1", "0.1"]}, 1),
    }


class Columns(unittest.TestCase):
    def setUp(self):
        self.column = Column(HALF, way="up", texts=["1", "0.1"])

    def tearDown(self):
        self.assertTrue(self.column == Column(HALF, way="up", texts=["1", "0.1"]))

    def test_tell(self):
        for name, thing in NO_TEXTS.items():
            with self.subTest(name):
                refused_text(self, 0, self.column.tell, thing)
                refused_text(self, 0, self.column.tell, text=thing)

    def test_tell_within(self):
        for name, thing in {**NO_LISTS, "a text": "1"}.items():
            with self.subTest(name):
                refused(self, "texts", self.column.tell_within, thing)
                refused(self, "texts", self.column.tell_within, texts=thing, shape=[], way=[])
        for name, thing in NOT_SHAPES.items():
            if thing is not None:
                with self.subTest(name):
                    refused(self, "shape", self.column.tell_within, ["1"], shape=thing)
                    refused(self, "shape", self.column.tell_within, ["x"], shape=thing, way=[])
        for name, thing in NOT_WAYS.items():
            if thing is not None:
                with self.subTest(name):
                    refused(self, "way", self.column.tell_within, ["1"], way=thing)
                    refused(self, "way", self.column.tell_within, ["x"], shape=DOUBLE, way=thing)

    def test_within_a_list_the_first_is_of_no_text(self):
        for name in ("deep list", "deep tuple", "circle", "doubled list", "wide list", "wide tuple"):
            with self.assertRaises(BadText) as caught:
                self.column.tell_within(NOT_WHOLE[name])
            self.assertEqual(caught.exception.place, 0)

    def test_what_is_refused_is_as_it_was(self):
        texts = [["x"], {"a": [1]}]
        for call in (self.column.tell_within, self.column.tell):
            with self.assertRaises(BadText):
                call(texts)
        self.assertEqual(texts, [["x"], {"a": [1]}])


if __name__ == "__main__":
    unittest.main()
