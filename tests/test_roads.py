"""All roads from a text to a number agree, and what is written of a number leads back to it by each."""

import unittest
from itertools import product

from digitway.columns import Column
from digitway.decimals import Decimal
from digitway.desk import Desk
from digitway.feeds import Feed
from digitway.numbers import infinite, nan
from digitway.reading import read, read_decimal, read_text
from digitway.rounding import rounded
from digitway.shapes import DOUBLE, HALF, SINGLE
from digitway.tables import by_table, least_bits
from digitway.writing import Expansion, reads_back, shortest, show, with_figures, with_places

from tests import by_hand
from tests.things import BOUND_SHAPES, SMALL_SHAPES, WAYS, edge_numbers

TEXTS = (
    "0", "-0", "+0.000e5", "1", "-1", "0.1", "-0.1", "2.5", "1e22", "1e23", "123456789012345678901234567890",
    "9007199254740993", "5e-324", "2.4703282292062327208e-324", "2.4703282292062328e-324", "1.7976931348623159e308",
    "1.00048828125", "1.000488281250000000000000001", "1.00048828124999999999999", "65519.999", "65520", "-65520.0",
    "2.98023223876953125e-8", "-2.98023223876953126e-8", "1e9999", "-1e-9999", ".5", "5.", "00012.5e-0003",
    "inf", "-inf", "+inf", "nan", "16777217", "16777216.999999999999999999999",
)

SHAPES = (HALF, SINGLE, DOUBLE, (2, 0, 0), (3, -2, 1), (64, -1100, 1000), (2, -1100, 1000))


def by_fraction(text, shape, way):
    told = read_text(text)
    if not isinstance(told, Decimal):
        return {"nan": nan(shape), "inf": infinite(shape), "-inf": infinite(shape, sign=1)}[told], ()
    numerator, denominator = told.value()
    # Only fractions below 10 ** 3000 are rounded.
    if abs(numerator) >= 10**3000 or denominator > 10**3000:
        return read(text, shape, way=way)
    return rounded(numerator, denominator, shape=shape, way=way, sign=told.sign())


def by_decimal(text, shape, way):
    told = read_text(text)
    return read_decimal(told, shape, way=way) if isinstance(told, Decimal) else read(text, shape, way=way)


def by_pieces(text, shape, way, size):
    feed = Feed(shape, way=way)
    for at in range(0, len(text), size):
        feed.push(text[at:at + size])
    return feed.told()


def by_column(text, shape, way):
    column = Column(way="up", texts=["7"])
    column.turn(shape=shape, way=way)
    told = column.tell(text)
    assert column.number(1) == told[0] and column.flags() == told[1]
    assert column.turned().number(1) == told[0]
    return told


def within_column(text, shape, way):
    column = Column(texts=["7"])
    return column.tell_within([text], shape=shape, way=way)[0]


def by_story(text, shape, way):
    column = Column()
    column.story([f"shape {shape[0]} {shape[1]} {shape[2]}", f"way {way}", f"tell {text}"])
    return column.number(0), column.flags()


def said(desk, line):
    """A pair of the text of a number and its flags."""
    number, *flags = desk.say(line).split(" ")
    return number, tuple(flags)


ROADS = {
    "fraction": by_fraction,
    "decimal": by_decimal,
    "sign by sign": lambda text, shape, way: by_pieces(text, shape, way, 1),
    "by three signs": lambda text, shape, way: by_pieces(text, shape, way, 3),
    "column": by_column,
    "within a column": within_column,
    "story": by_story,
}


class Roads(unittest.TestCase):
    def check(self, text, shape, way):
        told = read(text, shape, way=way)
        for name, road in ROADS.items():
            self.assertEqual(road(text, shape, way), told, (name, text, shape, way))
        self.check_desk(text, shape, way, told)
        self.check_known(text, shape, way, told[0])
        self.check_table(text, shape, way, told[0])
        return told

    def check_desk(self, text, shape, way, told):
        desk = Desk()
        desk.say(f"shape {shape[0]} {shape[1]} {shape[2]}")
        desk.say(f"way {way}")
        wanted = (str(told[0]), told[1])
        self.assertEqual(said(desk, f"read {text}"), wanted)
        self.assertEqual(said(desk, f"tell {text}"), wanted)
        self.assertEqual(desk.say("rows"), wanted[0])
        self.assertEqual(desk.say("flags"), " ".join(told[1]) or "none")
        self.assertEqual(desk.say(f"push {text}"), "done")
        self.assertIn(desk.say("known"), (wanted[0], f"by figures {wanted[0]}", "not yet"))
        self.assertEqual(desk.say(f"show {text}"), show(told[0]))

    def check_known(self, text, shape, way, number):
        """Whatever is known ahead of the end is what is told in the end."""
        feed = Feed(shape, way=way)
        surely = False
        for at in range(len(text) + 1):
            known = feed.known()
            # What is known once stays known.
            self.assertTrue(known == number if known is not None else not surely, (text, at))
            surely = known is not None
            if text[at:].isdigit() or text[at:] == "":
                known = feed.known(figures=True)
                self.assertTrue(known is None or known == number, (text, at))
            if at < len(text):
                feed.push(text[at])

    def check_table(self, text, shape, way, number):
        decimal = read_text(text)
        if isinstance(decimal, Decimal) and abs(decimal.tens()) <= 1200 and decimal.digits() < 2**200:
            for bits in (2, 64, 128, 400):
                told = by_table(decimal, shape, way=way, bits=bits, width=200)
                self.assertTrue(told is None or told == number, (text, bits))
            least = least_bits(decimal, shape, way=way, width=200)
            if least is not None:
                self.assertTrue(by_table(decimal, shape, way=way, bits=least, width=200) == number)

    def test_from_texts_to_numbers(self):
        for text, shape, way in product(TEXTS, SHAPES, WAYS):
            told = self.check(text, shape, way)
            self.assertEqual(told, by_hand.read(text, shape, way))

    def test_and_back(self):
        for shape in (HALF, SINGLE, DOUBLE, (64, -1100, 1000), (2, 0, 0)):
            for number in edge_numbers(shape)[::3] + [infinite(shape), infinite(shape, sign=1), nan(shape)]:
                told, flags = self.check(show(number), shape, "nearest")
                self.assertTrue(told == number, (shape, number))

    def test_back_by_other_shapes(self):
        for shape in SMALL_SHAPES + BOUND_SHAPES:
            for number in edge_numbers(shape):
                text = show(number)
                self.assertTrue(by_pieces(text, shape, "nearest", 2)[0] == number)
                self.assertTrue(by_column(text, shape, "nearest")[0] == number)
                self.assertTrue(read_decimal(shortest(number), shape)[0] == number)
                self.assertTrue(reads_back(number, shortest(number)))

    def test_all_figures_lead_back_by_each_way(self):
        for shape in (HALF, SINGLE, (3, -2, 1)):
            for number in edge_numbers(shape):
                expansion = Expansion(number)
                first = expansion.tens()
                figures = ""
                while not expansion.is_over():
                    figures += "".join(str(figure) for figure in expansion.take(20))
                digits = Decimal(int(figures or "0"), first - max(len(figures) - 1, 0), sign=number.sign())
                for way in WAYS:
                    told, flags = read(str(digits), shape, way=way)
                    self.assertTrue(told == number and flags == ())
                    for decimal, flags in (with_figures(number, 300, way=way), with_places(number, 200, way=way)):
                        self.assertEqual(flags, ())
                        self.assertTrue(read(str(decimal), shape, way=way)[0] == number)
                        self.assertTrue(by_pieces(str(decimal), shape, way, 5)[0] == number)

    def test_the_text_of_a_decimal_tells_it(self):
        for digits, power, sign in product((0, 1, 125, 10**300 + 7), (-9999, -3, 0, 3, 9999), (0, 1)):
            decimal = Decimal(digits, power, sign=sign)
            self.assertTrue(read_text(str(decimal)) == decimal)


if __name__ == "__main__":
    unittest.main()
