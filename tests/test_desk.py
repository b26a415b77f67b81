"""A desk: each line that it answers, to the last sign, and each refusal."""

import unittest
from itertools import product

from digitway.columns import Column
from digitway.decimals import Decimal
from digitway.desk import Desk
from digitway.feeds import Feed
from digitway.numbers import Number
from digitway.reading import read
from digitway.shapes import DOUBLE, HALF, SINGLE
from digitway.writing import show, with_figures, with_places

from tests.things import ANYTHING, NO_TEXTS, OWN, WAYS

TEXTS = ("0", "-0", "1", "0.1", "-2.5", "70000", "-1e-9", "1e400", "-1e-400", "1.00048828125", "+.5e1", "0012.50")
NOT_FINITE = {"inf": "infinite", "+inf": "infinite", "-inf": "infinite", "nan": "nan"}

SHAPES = (HALF, SINGLE, DOUBLE, (2, 0, 0), (64, -1100, 1000))

# (text, place): texts that are none.
WRONG = (("", 0), (" ", 0), (" 1", 0), ("1 ", 1), ("x", 0), ("1x", 1), ("1e", 2), ("infi", 3), (".", 1), ("+n", 1))
WRONG += (("1 2", 1), ("1" * 1901, 1900), ("-", 1), ("nan0", 3), ("1e12345", 6))

WITH_TEXT = ("read", "show", "word", "rank", "up", "down", "tell", "figures 3", "places 3")

ALONE = ("back", "heard", "known", "total", "rows", "flags", "settle")


def line_of(shape):
    return "shape {} {} {}".format(*shape)


def at_work():
    """A desk with a shape, a way, pieces, rows and flags."""
    desk = Desk()
    for line in (line_of(HALF), "way up", "push 1.", "push 5", "tell 0.1", "tell 1e9", "tell -0"):
        assert not desk.say(line).startswith("no")
    return desk


def state(desk):
    """What a desk says of itself."""
    return [desk.say(line) for line in ("read 0.1", "heard", "known", "rows", "total", "flags")]


def with_flags(told, flags):
    return " ".join([str(told), *flags])


class Numbers(unittest.TestCase):
    def test_by_shapes_and_ways(self):
        for shape, way in product(SHAPES, WAYS):
            desk = Desk()
            self.assertEqual((desk.say(line_of(shape)), desk.say(f"way {way}")), ("done", "done"))
            for text in TEXTS + tuple(NOT_FINITE):
                number, flags = read(text, shape, way=way)
                self.assertEqual(desk.say(f"read {text}"), with_flags(number, flags))
                self.assertEqual(desk.say(f"show {text}"), show(number))
                self.assertEqual(desk.say(f"word {text}"), str(number.word()))
                self.assertEqual(desk.say(f"up {text}"), str(number.up()))
                self.assertEqual(desk.say(f"down {text}"), str(number.down()))
                if number.kind() == "nan":
                    self.assertEqual(desk.say(f"rank {text}"), "nan")
                else:
                    self.assertEqual(desk.say(f"rank {text}"), str(number.rank()))
                for many in (1, 3, 17, 800):
                    wanted = NOT_FINITE.get(text, "infinite" if number.kind() == "infinite" else None)
                    wanted = wanted or with_flags(*with_figures(number, many, way=way))
                    self.assertEqual(desk.say(f"figures {many} {text}"), wanted)
                for places in (-400, -3, 0, 2, 1200):
                    wanted = NOT_FINITE.get(text, "infinite" if number.kind() == "infinite" else None)
                    wanted = wanted or with_flags(*with_places(number, places, way=way))
                    self.assertEqual(desk.say(f"places {places} {text}"), wanted)

    def test_as_it_stands(self):
        desk = Desk()
        for line, answer in (
            ("read 0.1", "7205759403792794p-56 inexact"),
            ("read 1", "4503599627370496p-52"),
            ("read -0", "-0p-1074"),
            ("read inf", "inf"),
            ("read -inf", "-inf"),
            ("read nan", "nan"),
            ("read 1e999", "inf inexact overflow"),
            ("read 1e-999", "0p-1074 inexact underflow"),
            ("show 12.50", "12.5"),
            ("show 1e22", "1e22"),
            ("show -0.000", "-0"),
            ("show nan", "nan"),
            ("show -inf", "-inf"),
            ("figures 3 0.1", "100e-3 inexact"),
            ("figures 1 0.5", "5e-1"),
            ("figures 2 -0", "-0e0"),
            ("figures 3 inf", "infinite"),
            ("figures 3 -inf", "infinite"),
            ("figures 3 nan", "nan"),
            ("places 0 2.5", "2e0 inexact"),
            ("places -2 12345", "123e2 inexact"),
            ("places 3 0", "0e-3"),
            ("places 3 inf", "infinite"),
            ("places 3 nan", "nan"),
            ("word 1", "4607182418800017408"),
            ("word nan", "9221120237041090560"),
            ("word -inf", "18442240474082181120"),
            ("rank -0", "0"),
            ("rank 5e-324", "1"),
            ("rank -inf", "-9218868437227405312"),
            ("rank nan", "nan"),
            ("up 0", "1p-1074"),
            ("up -5e-324", "-0p-1074"),
            ("down 0", "-1p-1074"),
            ("up inf", "inf"),
            ("down inf", "9007199254740991p971"),
            ("up nan", "nan"),
        ):
            self.assertEqual(desk.say(line), answer, line)
            self.assertTrue(type(desk.say(line=line)) is str)

    def test_flags_are_those_of_writing(self):
        # Reading 0.1 is inexact, writing 0 isn't.
        desk = Desk()
        desk.say(line_of(HALF))
        self.assertEqual(desk.say("figures 2 1e-9"), "0e0")
        self.assertEqual(desk.say("read 1e-9"), "0p-24 inexact underflow")
        self.assertEqual(desk.say("figures 800 0.1").split(" ")[1:], [])
        self.assertEqual(desk.say("figures 3 1e9"), "infinite")

    def test_wrong_texts(self):
        for (text, place), ahead in product(WRONG, WITH_TEXT):
            desk = at_work()
            before = state(desk)
            self.assertEqual(desk.say(f"{ahead} {text}"), f"bad sign {place}", (ahead, text))
            self.assertEqual(state(desk), before)

    def test_bounds_of_many(self):
        desk = Desk()
        for many in ("0", "-1", "801", "1000", "999999999", "01", "1.", "", "x", "+1", "1" * 10, "-0"):
            self.assertEqual(desk.say(f"figures {many} 1"), "no line", many)
            # A MANY that is none is told ahead of whatever is wrong with the text.
            self.assertEqual(desk.say(f"figures {many} x"), "no line", many)
            self.assertEqual(desk.say(f"figures {many} nan"), "no line", many)
        for places in ("-401", "1201", "-999999999", "1234567890", "-00", "03", "", "-", "x"):
            self.assertEqual(desk.say(f"places {places} 1"), "no line", places)
            self.assertEqual(desk.say(f"places {places} x"), "no line", places)
            self.assertEqual(desk.say(f"places {places} inf"), "no line", places)
        self.assertEqual(desk.say("figures 1 1"), "1e0")
        self.assertEqual(desk.say("figures 800 1"), str(Decimal(10**799, -799)))
        self.assertEqual(desk.say("places -400 1"), "0e400 inexact")
        self.assertEqual(desk.say("places 1200 1"), str(Decimal(10**1200, -1200)))


class ShapesAndWays(unittest.TestCase):
    def test_at_first(self):
        desk = Desk()
        self.assertEqual(desk.say("read 0.1"), with_flags(*read("0.1", DOUBLE, way="nearest")))
        self.assertEqual([desk.say(line) for line in ("heard", "known", "rows", "flags", "total", "back")], [
            "nothing", "not yet", "nothing", "none", "0p-1074", "nothing to take back"])

    def test_a_way_stays_with_another_shape(self):
        desk = Desk()
        self.assertEqual(desk.say("way up"), "done")
        self.assertEqual(desk.say(line_of(HALF)), "done")
        self.assertEqual(desk.say("read 0.1"), with_flags(*read("0.1", HALF, way="up")))
        self.assertEqual(desk.say("way down"), "done")
        self.assertEqual(desk.say("read 0.1"), with_flags(*read("0.1", HALF, way="down")))

    def test_feed_and_column_begin_anew(self):
        for line in (line_of(SINGLE), line_of(HALF), "way up", "way zero"):
            desk = at_work()
            self.assertEqual(desk.say(line), "done")
            told = [desk.say(asked) for asked in ("heard", "known", "rows", "flags", "back", "drop 0")]
            self.assertEqual(told, ["nothing", "not yet", "nothing", "none", "nothing to take back", "no row"])

    def test_of_the_new_shape_and_way(self):
        desk = Desk()
        desk.say(line_of(HALF))
        desk.say("way up")
        self.assertEqual(desk.say("tell 0.1"), with_flags(*read("0.1", HALF, way="up")))
        self.assertEqual(desk.say("total"), str(read("0.1", HALF, way="up")[0]))
        desk.say("push 1e-9")
        self.assertEqual(desk.say("known"), str(Number(HALF, significand=1)))

    def test_no_shapes_and_no_ways(self):
        wrong = ["shape", "shape ", "shape 11", "shape 11 -24", "shape 11 -24 5 ", "shape 11 -24 5 6", "shape  11 -24 5"]
        wrong += ["shape 11  -24 5", "shape 1 -24 5", "shape 65 -24 5", "shape 11 -1101 5", "shape 11 1 5", "shape a b c"]
        wrong += ["shape 11 -24 1001", "shape 11 -24 -25", "shape 011 -24 5", "shape 11 -24 05", "shape 11 -0 5"]
        wrong += ["shape 11 -24 5\n", "shape 11 -24\n5", "shape 0000000011 -24 5", "shape 11 -24 +5", "shape HALF"]
        wrong += ["way", "way ", "way Up", "way  up", "way up ", "way upp", "way up down", "way up\n", "way 0", "way UP"]
        for line in wrong:
            desk = at_work()
            before = state(desk)
            self.assertEqual(desk.say(line), "no line", line)
            self.assertEqual(state(desk), before, line)

    def test_the_bounds_of_shapes(self):
        for shape in ((2, 0, 0), (64, -1100, 1000), (2, -1100, -1100), (64, 0, 1000)):
            desk = Desk()
            self.assertEqual(desk.say(line_of(shape)), "done")
            self.assertEqual(desk.say("read 1e999"), with_flags(*read("1e999", shape)))


class Feeding(unittest.TestCase):
    def test_pieces(self):
        desk = Desk()
        for line, answer in (
            ("push 1", "done"),
            ("heard", "1"),
            ("push .5", "done"),
            ("push ", "done"),
            ("heard", "1.5"),
            ("back", "done"),
            ("heard", "1.5"),
            ("back", "done"),
            ("heard", "1"),
            ("push x", "bad sign 1"),
            ("push 2 ", "bad sign 2"),
            ("push  2", "bad sign 1"),
            ("push 23.4.5", "bad sign 5"),
            ("heard", "1"),
            ("back", "done"),
            ("heard", "nothing"),
            ("back", "nothing to take back"),
            ("push", "no line"),
            ("push e", "bad sign 0"),
            ("push -n", "bad sign 1"),
        ):
            self.assertEqual(desk.say(line), answer, line)

    def test_a_piece_of_no_signs_alone(self):
        desk = Desk()
        self.assertEqual([desk.say(line) for line in ("push ", "heard", "back", "back")], [
            "done", "nothing", "done", "nothing to take back"])

    def test_at_most_1900_signs(self):
        desk = Desk()
        self.assertEqual(desk.say("push " + "1" * 1901), "bad sign 1900")
        self.assertEqual(desk.say("push " + "1" * 1900), "done")
        self.assertEqual(desk.say("push 1"), "bad sign 1900")
        self.assertEqual(desk.say("heard"), "1" * 1900)

    def test_known(self):
        for shape, way in product((HALF, DOUBLE, (2, 0, 0)), WAYS):
            for heard in ("", "n", "-i", "inf", "0e", "-0e5", "1", "70000", "0.1", "65504", "0.", "1e9", "1.00048828124", "."):
                desk, feed = Desk(), Feed(shape, way=way)
                desk.say(line_of(shape))
                desk.say(f"way {way}")
                self.assertEqual(desk.say(f"push {heard}"), "done")
                feed.push(heard)
                surely, figures = feed.known(), feed.known(figures=True)
                wanted = f"by figures {figures}" if figures is not None else "not yet"
                self.assertEqual(desk.say("known"), wanted if surely is None else str(surely))

    def test_known_as_it_stands(self):
        desk = Desk()
        desk.say(line_of(HALF))
        for piece, answer in (("7", "not yet"), ("0000", "by figures inf"), ("e", "by figures inf"), ("5", "inf")):
            self.assertEqual(desk.say(f"push {piece}"), "done")
            self.assertEqual(desk.say("known"), answer)
        for piece, answer in (("n", "nan"), ("-i", "-inf"), ("0.1", "not yet"), ("0.100000", "by figures 1638p-14")):
            desk.say(line_of(HALF))
            desk.say(f"push {piece}")
            self.assertEqual(desk.say("known"), answer)


class Telling(unittest.TestCase):
    def test_rows(self):
        for shape, way in product(SHAPES, WAYS):
            desk, column = Desk(), Column(shape, way=way)
            desk.say(line_of(shape))
            desk.say(f"way {way}")
            for text in TEXTS:
                self.assertEqual(desk.say(f"tell {text}"), with_flags(*column.tell(text)))
                self.assertEqual(desk.say("rows"), " ".join(str(number) for number in column.numbers()))
                self.assertEqual(desk.say("total"), with_flags(*column.total()))
                self.assertEqual(desk.say("flags"), " ".join(column.flags()) or "none")
            self.assertEqual((desk.say("drop 2"), column.drop(2)), ("done", TEXTS[2]))
            self.assertEqual(desk.say("rows"), " ".join(str(number) for number in column.numbers()))
            self.assertEqual(desk.say("settle"), " ".join(column.settle()) or "none")
            self.assertEqual([desk.say("settle"), desk.say("flags")], ["none", "none"])

    def test_as_it_stands(self):
        desk = Desk()
        for line, answer in (
            (line_of(HALF), "done"),
            ("rows", "nothing"),
            ("total", "0p-24"),
            ("tell 1", "1024p-10"),
            ("flags", "none"),
            ("tell 0.1", "1638p-14 inexact"),
            ("tell 1e9", "inf inexact overflow"),
            ("tell -1e-9", "-0p-24 inexact underflow"),
            ("rows", "1024p-10 1638p-14 inf -0p-24"),
            ("flags", "inexact overflow underflow"),
            ("total", "inf"),
            ("drop 2", "done"),
            ("total", "1126p-10 inexact"),
            ("tell -inf", "-inf"),
            ("tell inf", "inf"),
            ("total", "nan"),
            ("drop 5", "no row"),
            ("drop -1", "no row"),
            ("drop 999999999", "no row"),
            ("drop -999999999", "no row"),
            ("drop 1000000000", "no line"),
            ("drop 00", "no line"),
            ("drop", "no line"),
            ("drop ", "no line"),
            ("drop x", "no line"),
            ("drop 0 ", "no line"),
            ("drop -0", "no line"),
            ("settle", "inexact overflow underflow"),
            ("flags", "none"),
            ("drop 0", "done"),
            ("rows", "1638p-14 -0p-24 -inf inf"),
        ):
            self.assertEqual(desk.say(line), answer, line)

    def test_full(self):
        desk = Desk()
        for _ in range(300):
            self.assertEqual(desk.say("tell 1"), "4503599627370496p-52")
        before = state(desk)
        self.assertEqual(desk.say("tell 0.1"), "full")
        self.assertEqual(desk.say("tell nan"), "full")
        self.assertEqual(desk.say("tell x"), "bad sign 0")
        self.assertEqual(desk.say("tell"), "no line")
        self.assertEqual(state(desk), before)
        self.assertEqual(desk.say("read 0.1"), "7205759403792794p-56 inexact")
        self.assertEqual([desk.say("drop 299"), desk.say("tell 2"), desk.say("tell 2")], [
            "done", "4503599627370496p-51", "full"])

    def test_reading_tells_no_row(self):
        desk = Desk()
        for line in ("read 0.1", "show 0.1", "figures 3 0.1", "up 0.1", "push 0.1"):
            desk.say(line)
        self.assertEqual((desk.say("rows"), desk.say("flags")), ("nothing", "none"))


class NoLines(unittest.TestCase):
    def check(self, line):
        desk = at_work()
        before = state(desk)
        self.assertEqual(desk.say(line), "no line", line if isinstance(line, str) else None)
        self.assertEqual(desk.say(line=line), "no line")
        self.assertEqual(state(desk), before)

    def test_other_words(self):
        for line in ("", " ", "  ", "x", "help", "reads 1", "rea 1", "Read 1", "READ 1", "say read 1", "1", "nan", "~", "-"):
            self.check(line)
        for word in ("tell_within 1", "turn up", "story", "copy", "same", "ranked", "twice 11 -24 5", "is_text", "pieces"):
            self.check(word)

    def test_blanks(self):
        for word in WITH_TEXT + ALONE + ("push", "drop", "shape", "way"):
            self.check(" " + word + " 1")
            self.check(" " + word)
            self.check("\t" + word)
        for word in ALONE:
            for more in (" ", "  ", " 1", " x"):
                self.check(word + more)
        for word in ("read", "show", "word", "rank", "up", "down", "tell", "push", "figures", "places", "drop", "shape", "way"):
            self.check(word)
        for line in ("figures 3", "places 3", "figures ", "places ", "figures  3 1", "places  3 1", "figures3 1", "read\t1"):
            self.check(line)

    def test_line_ends(self):
        for line in ("read 1", "push 1", "back", "total", "tell 1", "drop 0", "way up", line_of(HALF), "figures 3 1", "x"):
            for end in ("\n", "\r", "\r\n"):
                self.check(line + end)
                self.check(end + line)
                self.check(line[:2] + end + line[2:])
                self.check(line[:-1] + end + line[-1:])
        for line in ("\n", "push \n", "push 1\n2", "read \n", "read 1\n\n"):
            self.check(line)

    def test_of_anything(self):
        for name, thing in {**NO_TEXTS, **OWN, "empty text": "", "long text": "1" * 20_000, "bytes": b"total"}.items():
            with self.subTest(name):
                self.check(thing)
        for name, thing in ANYTHING.items():
            with self.subTest(name):
                self.check(thing)
        for thing in (["total"], ("total",), {"total": 1}, ["read 1"]):
            self.check(thing)

    def test_long_lines(self):
        desk = Desk()
        self.assertEqual(desk.say("read " + "1" * 19990), "bad sign 1900")
        self.assertEqual(desk.say("x" * 20000), "no line")
        self.assertEqual(desk.say("total" + " " * 19000), "no line")
        self.assertEqual(desk.say("drop " + "1" * 19000), "no line")
        self.assertEqual(desk.say("shape" + " 1" * 9000), "no line")

    def test_every_line_that_is_refused_changes_nothing(self):
        desk = at_work()
        before = state(desk)
        for line in ("read x", "figures 3 inf", "places 0 nan", "rank nan", "drop 3", "push x", "tell 1x", "tell", "drop"):
            desk.say(line)
            self.assertEqual(state(desk), before, line)
        self.assertEqual(desk.say("back"), "done")
        self.assertEqual(desk.say("heard"), "1.")


class Apart(unittest.TestCase):
    def test_two_desks(self):
        one, other = Desk(), Desk()
        one.say(line_of(HALF))
        one.say("tell 0.1")
        one.say("push 1")
        self.assertEqual([other.say(line) for line in ("read 0.1", "rows", "heard")], [
            "7205759403792794p-56 inexact", "nothing", "nothing"])


if __name__ == "__main__":
    unittest.main()
