import unittest

from digitway.errors import BadValue
from digitway.numbers import Number, between, by_rank, by_word, compare, greatest, infinite, nan
from digitway.shapes import DOUBLE, HALF, SINGLE

from tests.things import BOUND_SHAPES, NOT_NUMBERS, NOT_SHAPES, NOT_WHOLE, SHAPES, refused

NOT_SIGNS = {**NOT_WHOLE, "2": 2, "-1": -1, "great": 10**3999, "small": -(10**3999)}
NOT_EXPONENTS = {name: thing for name, thing in NOT_WHOLE.items() if thing is not None}
DEEP = NOT_WHOLE["deep tuple"]


class Refusals(unittest.TestCase):
    def refused_all(self, what, things, call):
        for name, thing in things.items():
            with self.subTest(name):
                refused(self, what, call, thing)

    def test_shapes_by_place_and_by_name(self):
        for call in (
            lambda thing: Number(thing),
            lambda thing: Number(shape=thing),
            lambda thing: infinite(thing),
            lambda thing: infinite(shape=thing),
            lambda thing: nan(thing),
            lambda thing: nan(shape=thing),
            lambda thing: greatest(thing),
            lambda thing: greatest(shape=thing),
            lambda thing: by_rank(0, thing),
            lambda thing: by_rank(0, shape=thing),
            lambda thing: by_word(0, thing),
            lambda thing: by_word(0, shape=thing),
        ):
            self.refused_all("shape", NOT_SHAPES, call)

    def test_signs(self):
        for call in (
            lambda thing: Number(sign=thing),
            lambda thing: Number(HALF, sign=thing),
            lambda thing: infinite(sign=thing),
            lambda thing: infinite(HALF, sign=thing),
            lambda thing: greatest(sign=thing),
            lambda thing: greatest(HALF, sign=thing),
        ):
            self.refused_all("sign", NOT_SIGNS, call)

    def test_significands(self):
        self.refused_all("significand", NOT_WHOLE, lambda thing: Number(significand=thing))
        self.refused_all("significand", NOT_WHOLE, lambda thing: Number(HALF, significand=thing, exponent=5))
        for shape in SHAPES:
            beyond = 2 ** shape[0]
            Number(shape, significand=beyond - 1)
            for significand in (-1, beyond, beyond + 1, -beyond, 10**3999, -(10**3999)):
                refused(self, "significand", Number, shape, significand=significand)
                refused(self, "significand", Number, shape, significand=significand, exponent=shape[2])

    def test_exponents(self):
        self.refused_all("exponent", NOT_EXPONENTS, lambda thing: Number(exponent=thing))
        self.refused_all("exponent", NOT_EXPONENTS, lambda thing: Number(HALF, significand=1024, exponent=thing))
        for shape in SHAPES:
            precision, low, high = shape
            for exponent in (low - 1, high + 1, low - 5000, high + 5000, 10**3999, -(10**3999)):
                for significand in (0, 1, 2 ** (precision - 1), 2**precision - 1):
                    refused(self, "exponent", Number, shape, significand=significand, exponent=exponent)

    def test_exponent_above_low_of_a_small_significand(self):
        seen = 0
        for shape in SHAPES:
            precision, low, high = shape
            first = 2 ** (precision - 1)
            for exponent in {min(low + 1, high), (low + high + 1) // 2, high} - {low}:
                seen += 1
                Number(shape, significand=first, exponent=exponent)
                for significand in (0, 1, first - 1):
                    refused(self, "exponent", Number, shape, significand=significand, exponent=exponent)
                    refused(self, "exponent", Number, shape, sign=1, significand=significand, exponent=exponent)
            for significand in (0, 1, first - 1, first):
                self.assertEqual(Number(shape, significand=significand, exponent=low).parts(), (significand, low))
        self.assertGreater(seen, len(BOUND_SHAPES))

    def test_ranks_and_words(self):
        self.refused_all("rank", NOT_WHOLE, lambda thing: by_rank(thing))
        self.refused_all("rank", NOT_WHOLE, lambda thing: by_rank(rank=thing, shape=HALF))
        self.refused_all("word", NOT_WHOLE, lambda thing: by_word(thing))
        self.refused_all("word", NOT_WHOLE, lambda thing: by_word(word=thing, shape=HALF))

    def test_numbers(self):
        for call in (
            lambda thing: compare(thing, Number()),
            lambda thing: compare(Number(), thing),
            lambda thing: compare(thing, nan()),
            lambda thing: compare(nan(), thing),
            lambda thing: compare(thing, thing),
            lambda thing: compare(one=thing, other=infinite()),
            lambda thing: compare(one=infinite(), other=thing),
            lambda thing: between(thing, Number()),
            lambda thing: between(Number(), thing),
            lambda thing: between(thing, nan()),
            lambda thing: between(nan(), thing),
            lambda thing: between(thing, thing),
            lambda thing: between(one=thing, other=infinite()),
            lambda thing: between(one=infinite(), other=thing),
        ):
            self.refused_all("number", NOT_NUMBERS, call)


class FirstOfSeveral(unittest.TestCase):
    def test_of_number_in_order(self):
        bad = {"shape": DEEP, "sign": DEEP, "significand": DEEP, "exponent": DEEP}
        for what in ("shape", "sign", "significand", "exponent"):
            refused(self, what, Number, **bad)
            refused(self, what, Number, **dict(reversed(bad.items())))
            del bad[what]
        self.assertEqual(Number(**bad).kind(), "zero")

    def test_of_number_by_twos(self):
        good = {"shape": HALF, "sign": 0, "significand": 1024, "exponent": 5}
        bad = {"shape": (65, 0, 0), "sign": 2, "significand": 2048, "exponent": 6}
        names = list(good)
        for at, first in enumerate(names):
            for second in names[at + 1:]:
                refused(self, first, Number, **{**good, first: bad[first], second: bad[second]})

    def test_significand_ahead_of_the_exponent_that_it_would_not_fit(self):
        refused(self, "significand", Number, HALF, significand=-1, exponent=5)
        refused(self, "significand", Number, HALF, significand=True, exponent=5)
        refused(self, "sign", Number, HALF, sign=True, significand=1, exponent=5)

    def test_shape_ahead_of_sign(self):
        for call in (infinite, greatest):
            refused(self, "shape", call, DEEP, sign=DEEP)
            refused(self, "shape", call, sign=2, shape=(1, 0, 0))

    def test_shape_ahead_of_rank_and_word(self):
        for call in (by_rank, by_word):
            for thing in (DEEP, True, -(10**100), 10**100, None):
                refused(self, "shape", call, thing, DEEP)
                refused(self, "shape", call, thing, list(HALF))

    def test_number_ahead_of_shape_and_of_nan(self):
        refused(self, "number", between, DEEP, nan(HALF))
        refused(self, "number", between, nan(HALF), DEEP)
        refused(self, "shape", between, nan(HALF), nan(SINGLE))
        refused(self, "shape", between, infinite(HALF), nan(DOUBLE))


class Unchanged(unittest.TestCase):
    def test_what_is_handed_in(self):
        listed, named, parts = [11, -24, 5], {"shape": [1]}, ([11], [-24], [5])
        for thing in (listed, named, parts):
            for call in (Number, infinite, nan, greatest):
                with self.assertRaises(BadValue):
                    call(thing)
            for call in (by_rank, by_word):
                with self.assertRaises(BadValue):
                    call(thing)
                with self.assertRaises(BadValue):
                    call(0, thing)
            for call in (compare, between):
                with self.assertRaises(BadValue):
                    call(thing, Number())
                with self.assertRaises(BadValue):
                    call(Number(), thing)
        self.assertEqual(listed, [11, -24, 5])
        self.assertEqual(named, {"shape": [1]})
        self.assertEqual(parts, ([11], [-24], [5]))

    def test_numbers_that_are_handed_in(self):
        one, other = Number(HALF, sign=1, significand=7), infinite(HALF)
        compare(one, other)
        between(one, other)
        with self.assertRaises(BadValue):
            between(one, Number(DOUBLE))
        self.assertEqual((str(one), str(other)), ("-7p-24", "inf"))
        self.assertEqual((one.shape(), other.shape()), (HALF, HALF))

    def test_a_refusal_changes_nothing(self):
        with self.assertRaises(BadValue):
            Number(HALF, sign=0, significand=1, exponent=5)
        self.assertEqual(str(Number(HALF)), "0p-24")
        self.assertEqual(HALF, (11, -24, 5))
        self.assertEqual(DOUBLE, (53, -1074, 971))


if __name__ == "__main__":
    unittest.main()
