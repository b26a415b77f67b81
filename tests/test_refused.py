"""Each argument of rounding, decimals, reading and writing that is none, alone and beside others."""

import unittest

from digitway.decimals import Decimal
from digitway.errors import NotFinite
from digitway.numbers import Number, infinite, nan
from digitway.reading import read, read_decimal, read_text
from digitway.rounding import rounded, to_whole
from digitway.shapes import DOUBLE, HALF, SINGLE
from digitway.writing import (
    Expansion,
    bounds,
    is_shortest,
    reads_back,
    shortest,
    show,
    with_figures,
    with_places,
)

from tests.refusing import Refusals, but
from tests.things import (
    NO_TEXTS,
    NOT_DECIMALS,
    NOT_NUMBERS,
    NOT_SHAPES,
    NOT_WAYS,
    refused,
    refused_state,
    refused_text,
)

TENTH = read("0.1")[0]

BAD = {
    "numerator": but(10**3000, -(10**3000)),
    "denominator": but(0, -1, 10**3000 + 1),
    "shape": NOT_SHAPES,
    "way": NOT_WAYS,
    "sign": but(2, -1),
    "digits": but(-1, 10**2000),
    "power": but(-20001, 20001),
    "text": NO_TEXTS,
    "decimal": NOT_DECIMALS,
    "number": NOT_NUMBERS,
    "many": but(0, 801),
    "places": but(-401, 1201),
}

CALLS = {
    to_whole: ({"numerator": 7, "denominator": 2, "way": "up"}, 2),
    rounded: ({"numerator": 7, "denominator": 2, "shape": HALF, "way": "up", "sign": 1}, 2),
    Decimal: ({"digits": 125, "power": -3, "sign": 1}, 2),
    read_text: ({"text": "1.5"}, 1),
    read: ({"text": "1.5", "shape": SINGLE, "way": "down"}, 2),
    read_decimal: ({"decimal": Decimal(15, -1), "shape": SINGLE, "way": "down"}, 2),
    bounds: ({"number": TENTH}, 1),
    reads_back: ({"number": TENTH, "decimal": Decimal(1, -1)}, 2),
    shortest: ({"number": TENTH}, 1),
    is_shortest: ({"number": TENTH, "decimal": Decimal(1, -1)}, 2),
    show: ({"number": TENTH}, 1),
    with_figures: ({"number": TENTH, "many": 3, "way": "zero"}, 2),
    with_places: ({"number": TENTH, "places": 3, "way": "zero"}, 2),
    Expansion: ({"number": TENTH}, 1),
}

NEED_FINITE = (bounds, reads_back, shortest, is_shortest, with_figures, with_places, Expansion)

NOT_FINITE = [
    (made, made.kind())
    for shape in (HALF, DOUBLE, (2, 0, 0), (64, -1100, 1000))
    for made in (infinite(shape), infinite(shape, sign=1), nan(shape))
]


class Refused(Refusals, unittest.TestCase):
    BAD = BAD
    CALLS = CALLS


class Besides(unittest.TestCase):
    def test_figures_to_take(self):
        for name, thing in but(-1, 2001).items():
            with self.subTest(name):
                expansion = Expansion(TENTH)
                refused(self, "many", expansion.take, thing)
                refused(self, "many", expansion.take, many=thing)
                self.assertTrue(expansion == Expansion(TENTH))

    def test_a_wrong_text_ahead_of_shape_and_way(self):
        for text, place in (("", 0), ("1e", 2), ("infi", 3), ("1" * 1901, 1900), ("+n", 1)):
            refused_text(self, place, read, text, [], way=[])
            refused_text(self, place, read, text, way="upp")
            refused_text(self, place, read, text, shape=None)

    def test_shape_and_way_of_texts_that_are_not_finite(self):
        for text in ("nan", "inf", "-inf", "0", "1e9999"):
            refused(self, "shape", read, text, list(HALF), way="upp")
            refused(self, "way", read, text, HALF, way="upp")

    def test_sign_of_what_is_not_0(self):
        for sign in (2, True, None):
            refused(self, "sign", rounded, 1, 3, sign=sign)
            refused(self, "sign", rounded, 0, sign=sign)


class Finite(unittest.TestCase):
    def test_states(self):
        for call in NEED_FINITE:
            good = CALLS[call][0]
            for number, state in NOT_FINITE:
                refused_state(self, state, call, **{**good, "number": number})
                refused_state(self, state, call, number, *list(good.values())[1:CALLS[call][1]])

    def test_ahead_of_all_but_the_number(self):
        for call in NEED_FINITE:
            bad = {name: BAD[name]["deep list"] for name in CALLS[call][0]}
            for number, state in NOT_FINITE:
                refused_state(self, state, call, **{**bad, "number": number})
            refused(self, "number", call, **bad)

    def test_shown_all_the_same(self):
        self.assertEqual([show(number) for number, state in NOT_FINITE[:3]], ["inf", "-inf", "nan"])

    def test_numbers_that_were_refused(self):
        for number, state in NOT_FINITE:
            text = str(number)
            for call in NEED_FINITE:
                with self.assertRaises(NotFinite):
                    call(**{**CALLS[call][0], "number": number})
            self.assertEqual((str(number), number.kind()), (text, state))
        self.assertTrue(Number() == Number(DOUBLE))


if __name__ == "__main__":
    unittest.main()
