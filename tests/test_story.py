"""Stories: all lines are done, or none."""

import unittest

from digitway.columns import Column
from digitway.errors import Untold
from digitway.reading import read
from digitway.shapes import DOUBLE, HALF, SINGLE

from tests.test_columns import state
from tests.things import ANYTHING, NO_TEXTS, OWN, WAYS, caught_from

GOOD = ["tell 0.1", "shape 11 -24 5", "tell 70000", "way up", "tell 0.1", "drop 0", "settle", "tell -1e-9", "tell 5"]

# Lines that are none, or are refused of a column of two to four rows.
WRONG = (
    "", " ", "tell", "tell ", "tell  1", "tell 1 ", "tell x", "tell 1 2", "tell 1e", " tell 1", "Tell 1", "tell\t1",
    "tell 1\n", "tell 1\r", "\ntell 1", "tell " + "1" * 1901,
    "drop", "drop ", "drop 4", "drop -1", "drop 00", "drop 01", "drop -0", "drop +1", "drop 1 ", "drop  1", "drop 1.",
    "drop x", "drop 0 0", "drop 1234567890", "drop 0000000000", "drop 123456789", "drop -", "drop 1\n", "drop 1_0",
    "shape", "shape ", "shape 11 -24", "shape 11 -24 5 ", "shape 11 -24 5 0", "shape  11 -24 5", "shape 11  -24 5",
    "shape 11 24 5", "shape 1 -24 5", "shape 65 -24 5", "shape 11 -1101 5", "shape 11 1 5", "shape 11 -24 1001",
    "shape 11 -24 -25", "shape 011 -24 5", "shape 11 -024 5", "shape 11 -24 +5", "shape 11 -24 -0", "shape 11 -0 5",
    "shape (11, -24, 5)", "shape 11,-24,5", "shape 11 -24 5\n", "shape a b c", "shape 1111111111 -24 5",
    "way", "way ", "way Up", "way upp", "way  up", "way up ", "way up down", "way nearest\n", "way 1",
    "settle ", "settle 1", " settle", "Settle", "settle\n", "settled",
    "read 1", "show 1", "total", "rows", "flags", "known", "heard", "push 1", "back", "up 1", "word 1", "rank 1",
    "figures 3 1", "places 3 1", "down 1", "tell_within 1", "turn", "copy", "~",
)


def column():
    made = Column(SINGLE, way="down", texts=["1", "0.1"])
    made.tell_within(["1e9"], shape=HALF)
    return made


def untold(case, place, call, *given, **named):
    error = caught_from(case, Untold, call, given, named)
    case.assertEqual(error.place, place)
    case.assertTrue(place is None or type(error.place) is int)


class Whole(unittest.TestCase):
    def test_done_in_order(self):
        for kind in (list, tuple):
            made = Column()
            self.assertIsNone(made.story(kind(GOOD)))
            self.assertEqual(
                state(made),
                (
                    HALF,
                    "up",
                    [("70000", HALF, "nearest"), ("0.1", HALF, "up"), ("-1e-9", HALF, "up"), ("5", HALF, "up")],
                    ["inf", "1639p-14", "-0p-24", "1280p-8"],
                    ("inexact", "underflow"),
                ),
            )

    def test_as_one_by_one(self):
        one, other = column(), column()
        self.assertIsNone(one.story(lines=GOOD))
        other.tell("0.1")
        other.turn(shape=HALF)
        other.tell("70000")
        other.turn(way="up")
        other.tell("0.1")
        self.assertEqual(other.drop(0), "1")
        other.settle()
        other.tell("-1e-9")
        other.tell("5")
        self.assertTrue(one == other)
        self.assertEqual(state(one), state(other))

    def test_one_line(self):
        for way in WAYS:
            made = column()
            made.story([f"way {way}"])
            self.assertEqual((made.shape(), made.way(), len(made)), (SINGLE, way, 3))
        for shape in (HALF, DOUBLE, (2, 0, 0), (64, -1100, 1000), (2, -1100, -1100)):
            made = column()
            made.story(["shape {} {} {}".format(*shape)])
            self.assertEqual((made.shape(), made.way(), len(made)), (shape, "down", 3))
        for at in range(3):
            made, other = column(), column()
            made.story([f"drop {at}"])
            other.drop(at)
            self.assertTrue(made == other)
        made = column()
        made.story(["settle"])
        self.assertEqual((made.flags(), len(made)), ((), 3))
        for text in ("1", "nan", "-inf", "+.5e-3", "1" * 1900):
            made = column()
            made.story([f"tell {text}"])
            self.assertEqual(made.row_told(3), (text, SINGLE, "down"))
            self.assertTrue(made.number(3) == read(text, SINGLE, way="down")[0])

    def test_no_lines(self):
        for lines in ([], ()):
            made = column()
            self.assertIsNone(made.story(lines))
            self.assertTrue(made == column())

    def test_300_lines_and_one_more(self):
        for lines in (["settle"] * 300, ["tell 1", "drop 0"] * 150, tuple(["tell 1"] * 297)):
            made = column()
            self.assertIsNone(made.story(lines))
        made = column()
        for lines in (["settle"] * 301, ("settle",) * 301, ["x"] * 301, [None] * 1_000_000):
            untold(self, None, made.story, lines)
        self.assertTrue(made == column())

    def test_300_rows(self):
        made = Column()
        made.story(["tell 1"] * 300)
        self.assertEqual(len(made), 300)
        before = state(made)
        untold(self, 0, made.story, ["tell 2"])
        untold(self, 3, made.story, ["drop 0", "drop 0", "tell 2", "tell x"])
        untold(self, 4, made.story, ["drop 0", "tell 0.1", "settle", "way up", "tell 2"])
        self.assertEqual(state(made), before)
        made.story(["drop 0", "tell 2"])
        self.assertEqual(made.row_told(299)[0], "2")

    def test_a_list_that_is_changed_later(self):
        lines = ["tell 1", "tell 2"]
        made = Column()
        made.story(lines)
        lines[0] = "tell 5"
        self.assertTrue(made == Column(texts=["1", "2"]))
        self.assertEqual(lines, ["tell 5", "tell 2"])


class Refused(unittest.TestCase):
    def test_each_line_at_each_place(self):
        ahead = ["tell 0.1", "shape 11 -24 5", "way up", "settle", "drop 0"]
        before = state(column())
        for line in WRONG:
            for many in range(len(ahead) + 1):
                made = column()
                untold(self, many, made.story, ahead[:many] + [line] + ahead[many:])
                self.assertEqual(state(made), before, (line, many))
                self.assertTrue(made == column())

    def test_it_goes_on_as_if_never_told(self):
        made = column()
        untold(self, 3, made.story, ["shape 11 -24 5", "drop 0", "tell 5", "drop 9"])
        self.assertEqual(made.tell("0.1"), read("0.1", SINGLE, way="down"))
        self.assertEqual(len(made), 4)

    def test_the_first_of_several(self):
        made = column()
        untold(self, 1, made.story, ["tell 1", "x", "drop 99", "tell"])
        untold(self, 1, made.story, ["tell 1", "drop 99", "x", None])
        untold(self, 0, made.story, [None, "x"])
        untold(self, 2, made.story, ["drop 0", "drop 1", "drop 1", "x"])

    def test_of_anything_in_a_line(self):
        for name, thing in {**NO_TEXTS, "empty text": "", "long text": "1" * 20000, "bytes": b"settle"}.items():
            with self.subTest(name):
                made = column()
                untold(self, 1, made.story, ["tell 1", thing])
                untold(self, 0, made.story, (thing,))
                self.assertTrue(made == column())

    def test_of_anything(self):
        no_lists = {name: thing for name, thing in {**ANYTHING, **OWN}.items() if not isinstance(thing, (list, tuple))}
        for name, thing in {**no_lists, "a line": "settle", "dict of lines": {0: "settle"}, "set": {"settle"}}.items():
            with self.subTest(name):
                made = column()
                untold(self, None, made.story, thing)
                untold(self, None, made.story, lines=thing)
                self.assertTrue(made == column())
        for name in ("wide list", "wide tuple"):
            untold(self, None, column().story, ANYTHING[name])
        for name in ("deep list", "deep tuple", "circle", "doubled list", "doubled triple"):
            untold(self, 0, column().story, ANYTHING[name])


if __name__ == "__main__":
    unittest.main()
