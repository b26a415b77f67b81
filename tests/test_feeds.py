"""Feeds: which signs follow, pieces that are let by, refused and taken back."""

import unittest
from itertools import product

from digitway.errors import CantBe
from digitway.feeds import Feed, follows
from digitway.reading import read
from digitway.shapes import DOUBLE, HALF, SINGLE

from tests import texts_by_hand
from tests.things import NO_TEXTS, OWN, WAYS, caught_from, refused, refused_text

TEXTS = (
    "nan", "inf", "-inf", "+inf", "0", "-0", "+12", "12.", ".5", "-.25", "1.5", "007.250", "1e5", "1.e5", ".1e-5",
    "-12.5e+0012", "3e0000", "9e9999", "1e-9999", "+0.0e-1",
)

BEGINNINGS = sorted({text[:many] for text in TEXTS for many in range(len(text) + 1)})

NONE = (
    " ", "a", "e", "f", "n1", "nb", "nan0", "nann", "-n", "+nan", "--", "+-", "-+1", "i1", "inff", "-info", "in ",
    "..", "1..", "1.5.", "-.e", ".e5", "1ee", "1e5.", "1e12345", "1e+-5", "1e5e", "1f", "1a", "1i", "0x1", "1_0",
    "1,5", "1 ", " 1", "1e ", "NaN", "INF", "1E5", "~", "/", ":",
)


def pushed(pieces, shape=DOUBLE, way="nearest"):
    feed = Feed(shape, way=way)
    for piece in pieces:
        feed.push(piece)
    return feed


class Follows(unittest.TestCase):
    def test_each_beginning(self):
        for text in BEGINNINGS:
            told = follows(text)
            self.assertTrue(type(told) is str)
            self.assertEqual(told, texts_by_hand.follows(text), text)

    def test_as_it_stands(self):
        figures = "0123456789"
        wanted = {
            "": "+-." + figures + "in",
            "-": "." + figures + "i",
            "+": "." + figures + "i",
            "n": "a",
            "na": "n",
            "nan": "",
            "i": "n",
            "-in": "f",
            "inf": "",
            "1": "." + figures + "e",
            "1.": figures + "e",
            ".": figures,
            "-.": figures,
            ".5": figures + "e",
            "1e": "+-" + figures,
            "1e-": figures,
            "1e1": figures,
            "1e123": figures,
            "1e1234": "",
            "1.5e+0000": "",
        }
        for text, signs in wanted.items():
            self.assertEqual(follows(text), signs, text)
            self.assertEqual(follows(text=text), signs)

    def test_of_what_is_none(self):
        for text in NONE:
            self.assertEqual(follows(text), "", text)
            self.assertEqual(texts_by_hand.follows(text), "", text)

    def test_behind_all_signs(self):
        for text in ("", "1", "-", "1e", "n"):
            for sign in (chr(code) for code in range(32, 127)):
                self.assertEqual(follows(text + sign), texts_by_hand.follows(text + sign), text + sign)

    def test_of_however_many_signs(self):
        self.assertEqual(follows("1" * 1900), ".0123456789e")
        self.assertEqual(follows("1" * 20000), ".0123456789e")
        self.assertEqual(follows("." + "1" * 5000 + "e"), "+-0123456789")
        self.assertEqual(follows("1" * 20000 + "x"), "")

    def test_of_anything(self):
        for name, thing in NO_TEXTS.items():
            with self.subTest(name):
                self.assertEqual(follows(thing), "")


class Push(unittest.TestCase):
    def test_sign_by_sign(self):
        for text in TEXTS:
            feed = Feed()
            for many, sign in enumerate(text, 1):
                told = feed.push(sign)
                self.assertTrue(type(told) is int)
                self.assertEqual((told, len(feed), feed.heard()), (many, many, text[:many]))
            self.assertEqual(feed.pieces(), list(text))
            self.assertTrue(feed.is_text() is True)
            self.assertEqual(feed.told(), read(text))

    def test_by_two_pieces(self):
        for text in TEXTS:
            for at in range(len(text) + 1):
                feed = Feed()
                self.assertEqual([feed.push(text[:at]), feed.push(piece=text[at:])], [at, len(text)])
                self.assertEqual((feed.heard(), feed.pieces()), (text, [text[:at], text[at:]]))
                self.assertEqual(feed.told(), read(text))

    def test_pieces_of_no_signs(self):
        feed = Feed()
        self.assertEqual([feed.push(piece) for piece in ("", "1", "", "", ".5", "")], [0, 1, 1, 1, 3, 3])
        self.assertEqual(feed.pieces(), ["", "1", "", "", ".5", ""])
        self.assertEqual([feed.back() for _ in range(6)], ["", ".5", "", "", "1", ""])
        self.assertEqual((feed.heard(), len(feed)), ("", 0))

    def test_refused_at_each_place(self):
        for ahead in BEGINNINGS:
            for piece in NONE + ("1", "e5", "-", "nan", ".", "1.5"):
                feed = pushed(["", ahead])
                wrong = texts_by_hand.first_wrong(ahead + piece)
                if wrong == len(ahead + piece):
                    self.assertEqual(feed.push(piece), wrong)
                else:
                    refused_text(self, wrong, feed.push, piece)
                    refused_text(self, wrong, feed.push, piece=piece)
                    self.assertEqual((feed.pieces(), feed.heard(), len(feed)), (["", ahead], ahead, len(ahead)))
                    self.assertTrue(feed == pushed(["", ahead]))
                    # It goes on as if nothing had been refused.
                    for sign in texts_by_hand.follows(ahead)[:1]:
                        self.assertEqual(feed.push(sign), len(ahead) + 1)

    def test_of_no_text(self):
        for name, thing in NO_TEXTS.items():
            with self.subTest(name):
                feed = pushed(["1"])
                refused(self, "piece", feed.push, thing)
                refused(self, "piece", feed.push, piece=thing)
                self.assertTrue(feed == pushed(["1"]))

    def test_at_most_1900_signs(self):
        for pieces in (["1" * 1900], ["1"] * 1900, ["1" * 1899, "2"], ["1." + "0" * 1800, "0" * 98], ["-", "." + "5" * 1898]):
            feed = pushed(pieces)
            self.assertEqual(len(feed), 1900)
            self.assertEqual(feed.push(""), 1900)
            for piece in ("1", "1" * 5, "1" * 18100, "x", "1x"):
                refused_text(self, 1900, feed.push, piece)
            self.assertEqual(len(feed), 1900)
            self.assertEqual(feed.told(), read(feed.heard()))
            self.assertEqual(feed.back(), "")
            feed.back()
            self.assertTrue(len(feed) < 1900)

    def test_one_sign_too_many(self):
        refused_text(self, 1900, Feed().push, "1" * 1901)
        refused_text(self, 1900, Feed().push, "1" * 20000)
        refused_text(self, 1900, pushed(["1" * 1000]).push, "1" * 901)
        self.assertEqual(pushed(["1" * 1000]).push("1" * 900), 1900)

    def test_the_lesser_of_both_places(self):
        refused_text(self, 5, Feed().push, "11111x" + "1" * 3000)
        refused_text(self, 1899, Feed().push, "1" * 1899 + "x" + "1" * 100)
        refused_text(self, 1900, Feed().push, "1" * 1900 + "x" + "1" * 100)
        refused_text(self, 1900, Feed().push, "1" * 1901 + "x")
        refused_text(self, 1500, pushed(["1" * 1000]).push, "1" * 500 + "x" + "1" * 3000)
        refused_text(self, 1900, pushed(["1" * 1000]).push, "1" * 900 + "x")
        refused_text(self, 1899, pushed(["1" * 1000]).push, "1" * 899 + "x")
        refused_text(self, 3, pushed(["nan"]).push, "1" * 5000)


class Back(unittest.TestCase):
    def test_one_behind_the_other(self):
        feed = pushed(["-", "1", ".5", "e1"])
        for piece, heard in (("e1", "-1.5"), (".5", "-1"), ("1", "-"), ("-", "")):
            self.assertEqual(feed.back(), piece)
            self.assertEqual(feed.heard(), heard)
        for _ in range(2):
            self.assertEqual(caught_from(self, CantBe, feed.back, (), {}).about, "back")
            self.assertTrue(feed == Feed())

    def test_it_goes_on_from_there(self):
        feed = pushed(["1", "e5", "000"])
        refused_text(self, 6, feed.push, ".")
        feed.back()
        feed.back()
        self.assertEqual(feed.push(".5"), 3)
        self.assertEqual(feed.told(), read("1.5"))

    def test_what_was_refused_is_not_taken_back(self):
        feed = pushed(["1"])
        refused_text(self, 1, feed.push, "x")
        self.assertEqual(feed.back(), "1")


class Told(unittest.TestCase):
    def test_is_text(self):
        for text in BEGINNINGS:
            feed = pushed([text])
            self.assertTrue(feed.is_text() is texts_by_hand.is_text(text), text)
            if not feed.is_text():
                refused_text(self, len(text), feed.told)

    def test_by_shape_and_way(self):
        for shape, way, text in product((HALF, SINGLE, DOUBLE, (2, 0, 0)), WAYS, ("0.1", "-70000", "1e-9", "nan", "-0")):
            feed = pushed(["", text[:1], text[1:]], shape, way)
            told = feed.told()
            self.assertTrue(type(told) is tuple)
            self.assertEqual(told, read(text, shape, way=way))
            self.assertEqual(feed.told(), told)

    def test_defaults_and_names(self):
        self.assertTrue(Feed() == Feed(DOUBLE, way="nearest"))
        self.assertTrue(Feed(way="up", shape=HALF) == Feed(HALF, way="up"))
        self.assertEqual(pushed(["0.1"]).told(), read("0.1"))


class Copies(unittest.TestCase):
    def test_a_list_that_was_told(self):
        feed = pushed(["1", ".5"])
        told = feed.pieces()
        self.assertTrue(type(told) is list)
        told.append("x")
        told[0] = "7"
        self.assertEqual((feed.pieces(), feed.heard(), feed.push("e1")), (["1", ".5"], "1.5", 5))
        self.assertEqual(told, ["7", ".5", "x"])
        kept = feed.pieces()
        feed.back()
        self.assertEqual(kept, ["1", ".5", "e1"])

    def test_a_copy_goes_on_by_itself(self):
        for shape, way in ((HALF, "up"), (DOUBLE, "nearest")):
            feed = pushed(["1", "e"], shape, way)
            other = feed.copy()
            self.assertTrue(other == feed and type(other) is Feed)
            other.push("5")
            self.assertEqual((feed.heard(), other.heard()), ("1e", "1e5"))
            self.assertFalse(other == feed)
            feed.back()
            self.assertEqual((feed.heard(), other.heard()), ("1", "1e5"))
            self.assertEqual(feed.push("."), 2)
            self.assertEqual(other.told(), read("1e5", shape, way=way))
            refused_text(self, 3, other.push, ".")
            self.assertEqual([other.back() for _ in range(3)], ["5", "e", "1"])
            self.assertEqual(feed.pieces(), ["1", "."])

    def test_equal(self):
        one = pushed(["1", ".5"])
        self.assertTrue(one == pushed(["1", ".5"]))
        self.assertFalse(one != pushed(["1", ".5"]))
        for other in (
            pushed(["1.5"]),
            pushed(["1", ".", "5"]),
            pushed(["1", ".5", ""]),
            pushed(["1"]),
            pushed(["1", ".6"]),
            pushed(["1", ".5"], HALF),
            pushed(["1", ".5"], way="up"),
        ):
            self.assertFalse(one == other)
            self.assertTrue(one != other)

    def test_unlike_anything_else(self):
        one = pushed(["1"])
        for name, thing in {**NO_TEXTS, **OWN, "its text": "1", "its pieces": ["1"]}.items():
            if name != "feed":
                self.assertTrue((one == thing) is False, name)

    def test_length(self):
        for text in BEGINNINGS:
            self.assertEqual(len(pushed(["", text])), len(text))


if __name__ == "__main__":
    unittest.main()
