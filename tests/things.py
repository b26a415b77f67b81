"""What several tests hand in: things of every kind, and shapes with numbers of them."""

from fractions import Fraction
from itertools import product

from digitway.columns import Column
from digitway.decimals import Decimal
from digitway.desk import Desk
from digitway.errors import BadText, BadValue, NotFinite
from digitway.feeds import Feed
from digitway.numbers import Number
from digitway.shapes import DOUBLE, HALF, SINGLE
from digitway.writing import Expansion

DEEP = 100_000

WAYS = ("nearest", "away", "zero", "up", "down")


class Hostile:
    """Fails at whatever is asked of it."""

    def fail(self, *rest):
        raise RuntimeError("nobody should have asked")

    __eq__ = __ne__ = __lt__ = __le__ = __gt__ = __ge__ = fail
    __bool__ = __len__ = __hash__ = __iter__ = __getitem__ = __contains__ = fail
    __index__ = __int__ = __str__ = __repr__ = __add__ = __radd__ = __sub__ = __rsub__ = fail


class Agreeable:
    """Says that it is equal to everything."""

    def __eq__(self, other):
        return True

    def __ne__(self, other):
        return False


def nested(wrap):
    thing = 5
    for _ in range(DEEP):
        thing = wrap(thing)
    return thing


def doubled(wrap):
    """The same thing within it so often that no walk over all of it ends."""
    thing = 5
    for _ in range(300):
        thing = wrap(thing)
    return thing


def circle():
    thing = []
    thing.append(thing)
    return thing


# By names: what fails is told by its name, as some of these cannot be shown.
ANYTHING = {
    "True": True,
    "False": False,
    "None": None,
    "text of a number": "1",
    "empty text": "",
    "long text": "1" * 20_000,
    "bytes": b"1",
    "fraction": Fraction(1),
    "list": [1],
    "empty list": [],
    "tuple of one": (1,),
    "empty tuple": (),
    "pair": (0, 1),
    "dict": {0: 1},
    "empty dict": {},
    "set": {1},
    "object": object(),
    "class": int,
    "own class": Number,
    "function": len,
    "own function": nested,
    "range": range(3),
    "hostile": Hostile(),
    "agreeable": Agreeable(),
    "circle": circle(),
    "wide list": [1] * 1_000_000,
    "wide tuple": (1,) * 1_000_000,
    "deep tuple": nested(lambda thing: (thing,)),
    "deep list": nested(lambda thing: [thing]),
    "deep dict": nested(lambda thing: {0: thing}),
    "deep triple": nested(lambda thing: (11, -24, thing)),
    "doubled tuple": doubled(lambda thing: (thing, thing)),
    "doubled triple": doubled(lambda thing: (thing, thing, thing)),
    "doubled list": doubled(lambda thing: [thing, thing]),
}

OWN = {
    "number": Number(),
    "decimal": Decimal(1),
    "expansion": Expansion(Number()),
    "feed": Feed(),
    "column": Column(texts=["1"]),
    "desk": Desk(),
}

NOT_WHOLE = {**ANYTHING, **OWN, "shape": DOUBLE}

NOT_NUMBERS = {
    **ANYTHING,
    **{name: thing for name, thing in OWN.items() if name != "number"},
    "shape": DOUBLE,
    "0": 0,
    "1": 1,
    "-1": -1,
    "name": "nan",
    "text": "0p-1074",
}

NOT_DECIMALS = {
    **ANYTHING,
    **{name: thing for name, thing in OWN.items() if name != "decimal"},
    "shape": DOUBLE,
    "0": 0,
    "1": 1,
    "its text": "1e0",
    "its parts": (0, 1, 0),
}

NOT_WAYS = {
    **NOT_WHOLE,
    "0": 0,
    "1": 1,
    **{
        wrong: wrong
        for way in WAYS
        for wrong in (way.upper(), way.title(), way[:-1], way + " ", " " + way, way + "s")
    },
    "bytes of one": b"nearest",
    "list of one": ["nearest"],
    "tuple with one": ("nearest",),
    "all of them": " ".join(WAYS),
}

NO_TEXTS = {
    name: thing
    for name, thing in {**NOT_WHOLE, "0": 0, "1": 1, "bytes of nan": b"nan", "signs": ["1", "2"]}.items()
    if not isinstance(thing, str)
}

NOT_SHAPES = {
    **ANYTHING,
    **OWN,
    "0": 0,
    "53": 53,
    "list of three": [11, -24, 5],
    "a part less": (11, -24),
    "a part more": (11, -24, 5, 0),
    "texts": ("11", "-24", "5"),
    "text of three": "abc",
    "bytes of three": bytes([11, 0, 5]),
    "dict of three": {0: 11, 1: -24, 2: 5},
    "precision 1": (1, -24, 5),
    "precision 65": (65, -24, 5),
    "precision 0": (0, -24, 5),
    "precision below 0": (-11, -24, 5),
    "low -1101": (11, -1101, 5),
    "low 1": (11, 1, 5),
    "high 1001": (11, -24, 1001),
    "high below low": (11, -24, -25),
    "high below low 0": (11, 0, -1),
    "all beyond": (65, 1, 1001),
    "great precision": (10**3999, -24, 5),
    "small low": (11, -(10**3999), 5),
    "great high": (11, -24, 10**3999),
    "shape within": (DOUBLE,),
    "shapes within": (DOUBLE, DOUBLE, DOUBLE),
    **{
        f"{name} at {place}": tuple(thing if at == place else part for at, part in enumerate(HALF))
        for name, thing in NOT_WHOLE.items()
        for place in range(3)
    },
    "False for low": (2, False, 0),
    "False for high": (2, 0, False),
    "True for high": (2, 0, True),
}

SMALL_SHAPES = (
    (2, 0, 0),
    (2, -1, -1),
    (2, -1, 0),
    (2, -2, 3),
    (3, -2, 1),
    (3, 0, 4),
    (4, -3, 0),
    (4, -7, 6),
    (5, -1, 1),
    (6, -4, -3),
)

BOUND_SHAPES = (
    (2, -1100, -1100),
    (2, -1100, 1000),
    (2, 0, 1000),
    (64, -1100, -1100),
    (64, -1100, 1000),
    (64, 0, 0),
    (64, 0, 1000),
)

SHAPES = (HALF, SINGLE, DOUBLE) + SMALL_SHAPES + BOUND_SHAPES


def all_parts(shape):
    """Each (significand, exponent) of a small shape, by the words of [2]."""
    precision, low, high = shape
    return [
        (significand, exponent)
        for exponent, significand in product(range(low, high + 1), range(2**precision))
        if significand >= 2 ** (precision - 1) or exponent == low
    ]


def edge_parts(shape):
    """Pairs (significand, exponent) where something changes."""
    precision, low, high = shape
    first, last = 2 ** (precision - 1), 2**precision - 1
    exponents = sorted({low, min(low + 1, high), (low + high) // 2, max(high - 1, low), high})
    subnormal = [(0, low), (1, low), (first - 1, low), (first // 2, low)]
    normal = [(significand, exponent) for exponent in exponents for significand in (first, first + 1, last - 1, last)]
    return sorted(set(subnormal + [(m, e) for m, e in normal if m >= first]))


def edge_numbers(shape):
    return [
        Number(shape, sign=sign, significand=significand, exponent=exponent)
        for significand, exponent in edge_parts(shape)
        for sign in (0, 1)
    ]


def caught_from(case, error, call, given, named):
    """What the call is refused by, which is of that class itself."""
    with case.assertRaises(error) as caught:
        call(*given, **named)
    case.assertTrue(type(caught.exception) is error)
    return caught.exception


def refused(case, what, call, *given, **named):
    """Check that the call is refused by BadValue itself, with this word."""
    case.assertEqual(caught_from(case, BadValue, call, given, named).what, what)


def refused_text(case, place, call, *given, **named):
    """Check that the call is refused by BadText, at this place."""
    error = caught_from(case, BadText, call, given, named)
    case.assertEqual((error.place, error.what), (place, "text"))


def refused_state(case, state, call, *given, **named):
    """Check that the call is refused by NotFinite, with this word."""
    case.assertEqual(caught_from(case, NotFinite, call, given, named).state, state)
