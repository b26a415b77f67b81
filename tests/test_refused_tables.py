"""Each argument of tables, gaps, sure tables and their checks that is none, alone and beside others."""

import unittest

from digitway.checking import check_gap, check_sure
from digitway.decimals import Decimal
from digitway.errors import NoPaper
from digitway.gaps import first_hit, gap_paper, stands_at
from digitway.shapes import DOUBLE, HALF, SINGLE
from digitway.sure import enough, first_lost, sure_paper, unsure
from digitway.tables import by_table, entry, is_exact, least_bits, opened

from tests.refusing import Refusals, but, without
from tests.things import ANYTHING, NOT_DECIMALS, NOT_SHAPES, NOT_WAYS, NOT_WHOLE, OWN, caught_from, refused

WALK = (0, 3, 10)

NOT_WALKS = {
    **ANYTHING,
    **OWN,
    "0": 0,
    "10": 10,
    "a shape": DOUBLE,
    "list of three": [0, 3, 10],
    "a part less": (3, 10),
    "a part more": (0, 3, 10, 0),
    "texts": ("0", "3", "10"),
    "modulus 0": (0, 0, 0),
    "modulus below 0": (0, 0, -1),
    "modulus beyond": (0, 1, 10**3000 + 1),
    "start at the modulus": (10, 3, 10),
    "step at the modulus": (0, 10, 10),
    "start below 0": (-1, 3, 10),
    "step below 0": (0, -1, 10),
    "all beyond": (10**3999, 10**3999, 10**3999),
    "walk within": (WALK,),
    **{
        f"{name} at {place}": WALK[:place] + (thing,) + WALK[place + 1:]
        for name, thing in NOT_WHOLE.items()
        for place in range(3)
    },
    "False for the start": (False, 0, 1),
    "False for the step": (0, False, 1),
    "True for the modulus": (0, 0, True),
}

BAD = {
    "power": but(-1201, 1201),
    "bits": but(1, 0, -64, 401),
    "width": but(0, -1, 201),
    "decimal": {
        **NOT_DECIMALS,
        "power above": Decimal(1, 1201),
        "power below": Decimal(1, -1201),
        "nought of a power above": Decimal(0, 1201, sign=1),
        "great power": Decimal(1, 20000),
    },
    "shape": NOT_SHAPES,
    "way": NOT_WAYS,
    "walk": NOT_WALKS,
    "steps": but(-1, 10**3000 + 1),
    "least": but(-1, 10),
    "most": but(-1, 3, 10),
    "stop": without(but(-1, 10**3000 + 1), "None"),
    "many": but(0, 31),
    "paper": {**ANYTHING, **OWN, "another": (1, 3, 3, 1, 0), "a row": ((0, (1, 3, 3, 1, 1)),)},
}

DECIMAL = Decimal(123, -4, sign=1)


class Refused(Refusals, unittest.TestCase):
    BAD = BAD
    CALLS = {
        entry: ({"power": 3, "bits": 8}, 1),
        is_exact: ({"power": 3, "bits": 8}, 1),
        opened: ({"decimal": DECIMAL, "bits": 8, "width": 8}, 1),
        by_table: ({"decimal": DECIMAL, "shape": HALF, "way": "up", "bits": 90, "width": 8}, 2),
        least_bits: ({"decimal": DECIMAL, "shape": HALF, "way": "up", "width": 8}, 2),
        stands_at: ({"walk": WALK, "steps": 5}, 2),
        first_hit: ({"walk": WALK, "least": 4, "most": 5, "stop": 3}, 3),
        gap_paper: ({"walk": WALK, "least": 4, "most": 5, "stop": 3}, 3),
        check_gap: ({"walk": WALK, "least": 4, "most": 5, "paper": (1, 3, 3, 1, 1), "stop": 3}, 4),
        check_sure: (
            {
                "power": -1,
                "paper": sure_paper(-1, HALF, bits=20, width=4),
                "shape": HALF,
                "bits": 20,
                "width": 4,
            },
            3,
        ),
        unsure: ({"power": -1, "shape": HALF, "bits": 20, "width": 4}, 2),
        sure_paper: ({"power": -1, "shape": HALF, "bits": 20, "width": 4}, 2),
        first_lost: ({"shape": HALF, "many": 3}, 2),
        enough: ({"shape": HALF}, 1),
    }
    # A paper is looked at behind all else.
    ORDER = {
        check_gap: ("walk", "least", "most", "stop", "paper"),
        check_sure: ("power", "shape", "bits", "width", "paper"),
    }


class Bounds(unittest.TestCase):
    def test_let_by(self):
        for power in (-1200, 1200):
            for bits in (2, 400):
                entry(power, bits=bits)
                is_exact(power, bits=bits)
                for width in (1, 200):
                    opened(Decimal(1, power), bits=bits, width=width)
                    by_table(Decimal(1, power), bits=bits, width=width)
                    least_bits(Decimal(1, power), width=width)
                    unsure(power, bits=bits, width=width)
                    check_sure(power, sure_paper(power, SINGLE, bits=bits, width=width), SINGLE, bits=bits, width=width)
        for many in (1, 30):
            first_lost(HALF, many)
        for walk in ((0, 0, 1), (10**3000 - 1, 10**3000 - 1, 10**3000)):
            most = walk[2] - 1
            self.assertEqual(stands_at(walk, 0), walk[0])
            self.assertEqual(first_hit(walk, most, most, stop=10**3000), 0)
            self.assertIsNone(gap_paper(walk, most, most, stop=0))

    def test_least_and_most_go_by_the_modulus(self):
        for call in (first_hit, gap_paper):
            refused(self, "least", call, (0, 3, 10), 10, 10)
            refused(self, "most", call, (0, 3, 10), 9, 10)
            refused(self, "most", call, (0, 3, 10), 9, 8)
            refused(self, "least", call, (0, 0, 1), 1, 0)
            call((0, 3, 10), 9, 9)
        refused(self, "most", check_gap, (0, 3, 10), 9, 8, None, stop=[])
        refused(self, "stop", check_gap, (0, 3, 10), 8, 8, None, stop=[])
        caught_from(self, NoPaper, check_gap, ((0, 3, 10), 8, 8, None), {})

    def test_a_decimal_of_no_entry_ahead_of_all_else(self):
        for call in (opened, by_table, least_bits):
            refused(self, "decimal", call, Decimal(2**70, 1201), width=[])
            refused(self, "width", call, Decimal(2**70, 1200), width=[])
            refused(self, "width", call, Decimal(2**70, 1200), width=70)
        refused(self, "bits", opened, Decimal(2**70, 1200), width=70, bits=1)
        refused(self, "bits", by_table, Decimal(2**70, 1200), width=70, bits=1)
        refused(self, "way", by_table, Decimal(2**70, 1200), way=0, width=70, bits=1)
        refused(self, "shape", least_bits, Decimal(2**70, 1200), 0, way=0, width=70)


if __name__ == "__main__":
    unittest.main()
