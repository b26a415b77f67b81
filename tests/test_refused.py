"""Each argument of rounding, decimals, reading and writing that is none, alone and beside others."""

import inspect
import unittest

from digitway.decimals import Decimal
from digitway.errors import BadText, BadValue, NotFinite
from digitway.numbers import Number, infinite, nan
from digitway.reading import read, read_decimal, read_text
from digitway.rounding import rounded, to_whole
from digitway.shapes import DOUBLE, HALF, SINGLE
from digitway.writing import (
    Expansion,
    bounds,
    is_shortest,
    reads_back,
    shortest,
    show,
    with_figures,
    with_places,
)

from tests.things import (
    NO_TEXTS,
    NOT_DECIMALS,
    NOT_NUMBERS,
    NOT_SHAPES,
    NOT_WAYS,
    NOT_WHOLE,
    refused,
    refused_state,
    refused_text,
)

TENTH = read("0.1")[0]

GREAT = {"great": 10**3999, "small": -(10**3999)}


def but(*more):
    """What is no whole number, and these that are beyond the bounds."""
    return {**NOT_WHOLE, **GREAT, **{f"more {at}": thing for at, thing in enumerate(more)}}


BAD = {
    "numerator": but(10**3000, -(10**3000)),
    "denominator": but(0, -1, 10**3000 + 1),
    "shape": NOT_SHAPES,
    "way": NOT_WAYS,
    "sign": but(2, -1),
    "digits": but(-1, 10**2000),
    "power": but(-20001, 20001),
    "text": NO_TEXTS,
    "decimal": NOT_DECIMALS,
    "number": NOT_NUMBERS,
    "many": but(0, 801),
    "places": but(-401, 1201),
}

# By the call: what it takes, in the order in which it is refused, and how many of these by place.
CALLS = {
    to_whole: ({"numerator": 7, "denominator": 2, "way": "up"}, 2),
    rounded: ({"numerator": 7, "denominator": 2, "shape": HALF, "way": "up", "sign": 1}, 2),
    Decimal: ({"digits": 125, "power": -3, "sign": 1}, 2),
    read_text: ({"text": "1.5"}, 1),
    read: ({"text": "1.5", "shape": SINGLE, "way": "down"}, 2),
    read_decimal: ({"decimal": Decimal(15, -1), "shape": SINGLE, "way": "down"}, 2),
    bounds: ({"number": TENTH}, 1),
    reads_back: ({"number": TENTH, "decimal": Decimal(1, -1)}, 2),
    shortest: ({"number": TENTH}, 1),
    is_shortest: ({"number": TENTH, "decimal": Decimal(1, -1)}, 2),
    show: ({"number": TENTH}, 1),
    with_figures: ({"number": TENTH, "many": 3, "way": "zero"}, 2),
    with_places: ({"number": TENTH, "places": 3, "way": "zero"}, 2),
    Expansion: ({"number": TENTH}, 1),
}

NEED_FINITE = (bounds, reads_back, shortest, is_shortest, with_figures, with_places, Expansion)

NOT_FINITE = [
    (made, made.kind())
    for shape in (HALF, DOUBLE, (2, 0, 0), (64, -1100, 1000))
    for made in (infinite(shape), infinite(shape, sign=1), nan(shape))
]


def refused_as(case, name, call, *given, **named):
    """Check the refusal that an argument of that name has coming, if it is no such thing at all."""
    if name == "text":
        refused_text(case, 0, call, *given, **named)
    else:
        refused(case, name, call, *given, **named)


def needed(call, good):
    """The arguments that have no default."""
    listed = inspect.signature(call).parameters
    return {name: thing for name, thing in good.items() if listed[name].default is inspect.Parameter.empty}


def each_bad():
    for call, (good, by_place) in CALLS.items():
        for at, name in enumerate(good):
            for what, thing in BAD[name].items():
                yield call, good, by_place, at, name, what, thing


class One(unittest.TestCase):
    def test_all_are_well_as_they_are(self):
        for call, (good, by_place) in CALLS.items():
            call(**good)
            call(*list(good.values())[:by_place])

    def test_by_name(self):
        for call, good, by_place, at, name, what, thing in each_bad():
            with self.subTest(call=call.__name__, name=name, what=what):
                refused_as(self, name, call, **{**good, name: thing})

    def test_by_place(self):
        for call, good, by_place, at, name, what, thing in each_bad():
            if at < by_place:
                with self.subTest(call=call.__name__, name=name, what=what):
                    given = list(good.values())[:by_place]
                    given[at] = thing
                    refused_as(self, name, call, *given)

    def test_alone_with_defaults_left_out(self):
        for call, good, by_place, at, name, what, thing in each_bad():
            with self.subTest(call=call.__name__, name=name, what=what):
                refused_as(self, name, call, **{**needed(call, good), name: thing})

    def test_figures_to_take(self):
        for name, thing in but(-1, 2001).items():
            with self.subTest(name):
                expansion = Expansion(TENTH)
                refused(self, "many", expansion.take, thing)
                refused(self, "many", expansion.take, many=thing)
                self.assertTrue(expansion == Expansion(TENTH))


class Several(unittest.TestCase):
    def test_the_first_of_two(self):
        for call, (good, by_place) in CALLS.items():
            names = list(good)
            for at, first in enumerate(names):
                for second in names[at + 1:]:
                    for what in ("deep tuple", "None", "hostile", "True"):
                        bad = {first: BAD[first][what], second: BAD[second][what]}
                        with self.subTest(call=call.__name__, first=first, second=second, what=what):
                            refused_as(self, first, call, **{**good, **bad})
                            refused_as(self, first, call, **dict(reversed({**good, **bad}.items())))

    def test_the_first_of_all_that_are_left(self):
        for call, (good, by_place) in CALLS.items():
            bad = {name: BAD[name]["doubled list"] for name in good}
            for name in good:
                refused_as(self, name, call, **{**good, **bad})
                del bad[name]

    def test_a_wrong_text_ahead_of_shape_and_way(self):
        for text, place in (("", 0), ("1e", 2), ("infi", 3), ("1" * 1901, 1900), ("+n", 1)):
            refused_text(self, place, read, text, [], way=[])
            refused_text(self, place, read, text, way="upp")
            refused_text(self, place, read, text, shape=None)

    def test_shape_and_way_of_texts_that_are_not_finite(self):
        for text in ("nan", "inf", "-inf", "0", "1e9999"):
            refused(self, "shape", read, text, list(HALF), way="upp")
            refused(self, "way", read, text, HALF, way="upp")

    def test_sign_of_what_is_not_0(self):
        for sign in (2, True, None):
            refused(self, "sign", rounded, 1, 3, sign=sign)
            refused(self, "sign", rounded, 0, sign=sign)


class Finite(unittest.TestCase):
    def test_states(self):
        for call in NEED_FINITE:
            good = CALLS[call][0]
            for number, state in NOT_FINITE:
                refused_state(self, state, call, **{**good, "number": number})
                refused_state(self, state, call, number, *list(good.values())[1:CALLS[call][1]])

    def test_ahead_of_all_but_the_number(self):
        for call in NEED_FINITE:
            bad = {name: BAD[name]["deep list"] for name in CALLS[call][0]}
            for number, state in NOT_FINITE:
                refused_state(self, state, call, **{**bad, "number": number})
            refused(self, "number", call, **bad)

    def test_shown_all_the_same(self):
        self.assertEqual([show(number) for number, state in NOT_FINITE[:3]], ["inf", "-inf", "nan"])


class Unchanged(unittest.TestCase):
    def test_what_is_refused(self):
        for call, (good, by_place) in CALLS.items():
            for name in good:
                things = [11, [-24], {"a": 5}], {"a": [1]}, ([1], "x", {2: [3]})
                for thing in things:
                    with self.assertRaises((BadValue, BadText)):
                        call(**{**good, name: thing})
                self.assertEqual(things, ([11, [-24], {"a": 5}], {"a": [1]}, ([1], "x", {2: [3]})))

    def test_what_is_taken(self):
        for call, (good, by_place) in CALLS.items():
            told = {name: str(thing) for name, thing in good.items()}
            call(**good)
            self.assertEqual({name: str(thing) for name, thing in good.items()}, told)

    def test_the_same_is_told_again(self):
        for call, (good, by_place) in CALLS.items():
            one = call(**good)
            for name in good:
                with self.assertRaises((BadValue, BadText, NotFinite)):
                    call(**{**good, name: []})
            self.assertTrue(one == call(**good), call.__name__)

    def test_numbers_that_were_refused(self):
        for number, state in NOT_FINITE:
            text = str(number)
            for call in NEED_FINITE:
                with self.assertRaises(NotFinite):
                    call(**{**CALLS[call][0], "number": number})
            self.assertEqual((str(number), number.kind()), (text, state))
        self.assertTrue(Number() == Number(DOUBLE))


if __name__ == "__main__":
    unittest.main()
