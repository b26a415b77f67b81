"""Papers that come out are let by, and whatever doesn't is refused."""

import unittest
from itertools import product

from digitway.checking import check_gap, check_sure
from digitway.errors import NoPaper
from digitway.gaps import gap_paper, stands_at
from digitway.shapes import DOUBLE, HALF, SINGLE
from digitway.sure import sure_paper, unsure

from tests.sure_by_hand import comes_out, hits, rows, sure_comes_out
from tests.sure_by_hand import unsure as by_all_digits
from tests.test_gaps import GREAT_WALKS, small_walks, stretches
from tests.things import ANYTHING, NOT_WHOLE, caught_from

# Tables that are sure, with rows of their papers: (power, shape, bits, width).
SURE = (
    (-20, HALF, 64, 53),
    (-5, HALF, 20, 4),
    (-1, HALF, 20, 4),
    (-50, SINGLE, 128, 64),
    (-30, SINGLE, 128, 64),
    (-10, DOUBLE, 128, 64),
    (100, DOUBLE, 128, 64),
    (300, DOUBLE, 400, 200),
    (-342, DOUBLE, 128, 64),
    (-1, (3, -2, 1), 12, 2),
)


def is_let_by(call, *given, **named):
    """Whether a check lets a paper by; it may say None alone, or refuse by NoPaper itself."""
    try:
        told = call(*given, **named)
    except NoPaper as error:
        assert type(error) is NoPaper and error.what == "paper"
        return False
    assert told is None
    return True


class Gap(unittest.TestCase):
    def refused(self, walk, least, most, paper, stop):
        caught_from(self, NoPaper, check_gap, (walk, least, most, paper), {"stop": stop})

    def test_papers_that_are_told(self):
        for walk in small_walks(8):
            for least, most in stretches(walk[2]):
                for stop in (None, 0, 1, 2, 3, 5, 7, 9):
                    paper = gap_paper(walk, least, most, stop=stop)
                    if paper is not None:
                        self.assertIsNone(check_gap(walk, least, most, paper, stop=stop))

    def test_all_small_papers(self):
        seen = 0
        for walk in small_walks(4):
            for (least, most), stop in product(stretches(walk[2]), (None, 0, 1, 2, 3, 4)):
                none = not hits(walk, least, most, stop, 10)
                found = 0
                for paper in product(range(5), repeat=5):
                    wanted = comes_out(walk, least, most, paper, stop)
                    # A look at the rest is needed only where the first words hold.
                    if wanted or paper[0] * paper[3] + paper[2] * paper[1] == walk[2]:
                        self.assertTrue(is_let_by(check_gap, walk, least, most, paper, stop=stop) is wanted)
                    found += wanted
                self.assertTrue((found > 0) is none, (walk, least, most, stop))
                seen += found
        self.assertTrue(seen > 1000, seen)

    def test_papers_with_a_part_changed(self):
        for walk in small_walks(9):
            least, most = walk[2] // 3, walk[2] // 2
            for stop in (None, 0, 1, 3, 6):
                paper = gap_paper(walk, least, most, stop=stop)
                if paper is None:
                    continue
                for at, by in product(range(5), (-3, -2, -1, 1, 2, 3, walk[2])):
                    changed = tuple(part + by if at == place else part for place, part in enumerate(paper))
                    wanted = comes_out(walk, least, most, changed, stop)
                    self.assertTrue(is_let_by(check_gap, walk, least, most, changed, stop=stop) is wanted)

    def test_great_papers(self):
        for walk, least, most in GREAT_WALKS:
            for stop in (0, 5, 2**50):
                paper = gap_paper(walk, least, most, stop=stop)
                if paper is None:
                    continue
                self.assertIsNone(check_gap(walk, least, most, paper, stop=stop))
                for at, by in product(range(5), (-1, 1, 10**3000)):
                    changed = tuple(part + by if at == place else part for place, part in enumerate(paper))
                    wanted = comes_out(walk, least, most, changed, stop)
                    self.assertTrue(is_let_by(check_gap, walk, least, most, changed, stop=stop) is wanted)

    def test_each_word_of_it_alone(self):
        # Of the points 0, 3, 6, 9 that next above K is K + 1, 3 above it, or K - 3, 1 above it.
        self.assertIsNone(check_gap((0, 3, 10), 4, 5, (1, 3, 3, 1, 1), stop=3))
        # All is so, but the stop isn't less than P + Q.
        self.refused((0, 3, 10), 4, 5, (1, 3, 3, 1, 1), 4)
        self.refused((0, 3, 10), 4, 5, (1, 3, 3, 1, 1), None)
        # K is beyond the stop.
        self.assertIsNone(check_gap((0, 3, 10), 7, 8, (1, 3, 3, 1, 2), stop=2))
        self.refused((0, 3, 10), 7, 8, (1, 3, 3, 1, 2), 1)
        # LEAST is the point itself, and MOST is that above it.
        self.refused((0, 3, 10), 3, 5, (1, 3, 3, 1, 1), 3)
        self.refused((0, 3, 10), 4, 6, (1, 3, 3, 1, 1), 3)
        # With K + P beyond the stop and K less than Q the gap is both together.
        self.assertIsNone(check_gap((0, 3, 10), 7, 9, (1, 3, 3, 1, 2), stop=2))
        self.refused((0, 3, 10), 7, 9, (1, 3, 3, 1, 2), 3)
        # With K at least Q it is V: the points 0, 3, 6, 9, 2 leave one of 1 above 9 and 2, of 2 above 0.
        self.assertIsNone(check_gap((0, 3, 10), 1, 1, (4, 2, 3, 1, 0), stop=6))
        self.refused((0, 3, 10), 1, 2, (4, 2, 3, 1, 0), 6)
        self.refused((0, 3, 10), 0, 0, (4, 2, 3, 1, 3), 6)
        self.refused((0, 3, 10), 1, 1, (4, 2, 3, 1, 0), 7)

    def test_a_step_of_0_has_papers_without_bound(self):
        for great in (1, 2, 10**100, 10**3999):
            self.assertIsNone(check_gap((2, 0, 5), 3, 4, (great, 5, 1, 0, 0)))
            self.assertIsNone(check_gap((2, 0, 5), 3, 4, (1, 0, great, 5, great)))
            self.refused((2, 0, 5), 3, 4, (1, 0, great, 5, great - 1), None)
            self.refused((2, 0, 5), 3, 4, (great, 5, 1, 0, 1), None)

    def test_no_paper_where_some_step_hits(self):
        walk = (0, 3, 10)
        for least, most in stretches(10):
            for paper in product((1, 2, 3, 4, 7), (0, 1, 2, 3), (1, 2, 3, 7), (0, 1, 2, 3), (0, 1, 2, 5, 9)):
                if paper[0] * paper[3] + paper[2] * paper[1] == 10:
                    self.refused(walk, least, most, paper, None)

    def test_of_other_kinds(self):
        walk, least, most, stop = (0, 3, 10), 4, 5, 3
        good = (1, 3, 3, 1, 1)
        check_gap(walk, least, most, good, stop=stop)
        wrong = {
            **ANYTHING,
            "list": list(good),
            "a part less": good[:4],
            "a part more": good + (0,),
            "texts": tuple(str(part) for part in good),
            "dict": dict(enumerate(good)),
            "within": (good,),
            "a row": (0, good),
            "twice": good + good,
        }
        for place in range(5):
            for name, thing in NOT_WHOLE.items():
                wrong[f"{name} at {place}"] = good[:place] + (thing,) + good[place + 1:]
        # True is no 1, though it counts as one.
        wrong["True for 1"] = (True, 3, 3, True, True)
        for name, paper in wrong.items():
            with self.subTest(name):
                self.refused(walk, least, most, paper, stop)

    def test_false_is_no_0(self):
        self.assertIsNone(check_gap((2, 0, 5), 3, 4, (1, 5, 1, 0, 0)))
        self.refused((2, 0, 5), 3, 4, (1, 5, 1, False, 0), None)
        self.refused((2, 0, 5), 3, 4, (1, 5, 1, 0, False), None)
        self.refused((2, 0, 5), 3, 4, (True, 5, 1, 0, 0), None)

    def test_below_0(self):
        # P * V + Q * U is the modulus, and all else would be so, too.
        for paper in ((-1, -3, 1, 7, 0), (1, 3, 1, -7, 0), (0, 10, 1, 0, 0), (1, 0, 0, 10, 0), (1, 3, 1, 7, -1)):
            self.refused((0, 3, 10), 4, 5, paper, 0)
        self.refused((0, 0, 10), 4, 5, (0, 10, 1, 0, 0), None)
        self.refused((0, 0, 10), 4, 5, (1, 0, 0, 10, 0), None)
        self.refused((0, 0, 10), 4, 5, (1, 10, 1, 0, -1), None)
        # Both would come out, and no step hits, but U and V are from 0 on.
        self.refused((0, 3, 10), 1, 2, (3, -1, 2, 4, 0), 2)
        self.refused((0, 7, 10), 1, 2, (2, 4, 3, -1, 0), 1)
        for walk, stop in (((0, 3, 10), 2), ((0, 7, 10), 1)):
            check_gap(walk, 1, 2, gap_paper(walk, 1, 2, stop=stop), stop=stop)

    def test_by_names(self):
        self.assertIsNone(check_gap(stop=3, paper=(1, 3, 3, 1, 1), most=5, least=4, walk=(0, 3, 10)))
        caught_from(self, NoPaper, check_gap, (), {"paper": (1, 3, 3, 1, 1), "most": 5, "least": 4, "walk": (0, 3, 10)})


class Sure(unittest.TestCase):
    def refused(self, power, paper, shape, bits, width):
        caught_from(self, NoPaper, check_sure, (power, paper, shape), {"bits": bits, "width": width})

    def test_papers_that_are_told(self):
        for power, shape, bits, width in SURE:
            paper = sure_paper(power, shape, bits=bits, width=width)
            self.assertTrue(len(paper) > 0)
            self.assertIsNone(check_sure(power, paper, shape, bits=bits, width=width))
            self.assertTrue(sure_comes_out(power, paper, shape, bits, width))

    def test_rows_left_out_twice_or_in_another_order(self):
        for power, shape, bits, width in SURE:
            paper = sure_paper(power, shape, bits=bits, width=width)
            wrong = [(), paper[1:], paper[:-1], paper + paper[-1:], paper[:1] + paper, paper + paper, (paper,)]
            if len(paper) > 1:
                wrong += [paper[::-1], paper[1:] + paper[:1], paper[:1] * len(paper), paper[:1] + paper[:-1]]
            for changed in wrong:
                self.refused(power, changed, shape, bits, width)

    def test_other_exponents(self):
        for power, shape, bits, width in SURE:
            paper = sure_paper(power, shape, bits=bits, width=width)
            for at in sorted({0, len(paper) // 2, len(paper) - 1}):
                exponent, gap = paper[at]
                for other in (exponent - 1, exponent + 1, -exponent, exponent + 10**3000, str(exponent), None, True):
                    if other != exponent:
                        self.refused(power, paper[:at] + ((other, gap),) + paper[at + 1:], shape, bits, width)
            # A row for an exponent that has none.
            for exponent in (paper[0][0] - 1, paper[-1][0] + 1):
                more = ((exponent, paper[0][1]),)
                self.refused(power, more + paper, shape, bits, width)
                self.refused(power, paper + more, shape, bits, width)

    def test_a_part_changed(self):
        for power, shape, bits, width in SURE:
            paper = sure_paper(power, shape, bits=bits, width=width)
            for at in sorted({0, len(paper) // 2, len(paper) - 1}):
                exponent, gap = paper[at]
                for place, by in product(range(5), (-1, 1)):
                    changed = gap[:place] + (gap[place] + by,) + gap[place + 1:]
                    whole = paper[:at] + ((exponent, changed),) + paper[at + 1:]
                    wanted = sure_comes_out(power, whole, shape, bits, width)
                    self.assertTrue(is_let_by(check_sure, power, whole, shape, bits=bits, width=width) is wanted)

    def test_other_papers_that_come_out(self):
        others = 0
        for power, shape, bits, width in SURE[1:3]:
            told = sure_paper(power, shape, bits=bits, width=width)
            wanted = rows(power, shape, bits, width)
            for row, (exponent, first, last, walk, wide) in enumerate(wanted):
                for ahead, behind, at in product(range(1, 17), range(1, 17), range(last - first + 2)):
                    gap = (ahead, ahead * walk[1] % walk[2], behind, -behind * walk[1] % walk[2], at)
                    if ahead * gap[3] + behind * gap[1] == walk[2]:
                        paper = told[:row] + ((exponent, gap),) + told[row + 1:]
                        well = comes_out(walk, 0, wide, gap, last - first)
                        self.assertTrue(is_let_by(check_sure, power, paper, shape, bits=bits, width=width) is well)
                        others += well and gap != told[row][1]
        self.assertTrue(others > 10, others)

    def test_of_other_kinds(self):
        power, shape, bits, width = SURE[1]
        paper = sure_paper(power, shape, bits=bits, width=width)
        self.assertEqual(len(paper), 2)
        (one, gap), other = paper
        wrong = {**ANYTHING, "list": list(paper), "lists within": tuple(list(row) for row in paper)}
        wrong["dict"] = dict(paper)
        for name, thing in {**ANYTHING, "list": [one, gap], "a part less": (one,), "a part more": (one, gap, 0)}.items():
            wrong[f"{name} for a row"] = (thing, other)
            wrong[f"{name} for the last row"] = ((one, gap), thing)
            wrong[f"{name} for a paper"] = ((one, thing), other)
        for name, thing in NOT_WHOLE.items():
            wrong[f"{name} for an exponent"] = ((thing, gap), other)
        for name, changed in wrong.items():
            with self.subTest(name):
                # Of nothing at all there is no row, and that is a paper only of an exact entry.
                self.refused(power, changed, shape, bits, width)

    def test_an_exact_entry(self):
        for power, bits in ((0, 2), (0, 64), (27, 64), (55, 128), (172, 400)):
            self.assertIsNone(check_sure(power, (), bits=bits))
            for wrong in (((0, (1, 1, 1, 1, 0)),), [], None, ((),), (0,), "", {}):
                self.refused(power, wrong, DOUBLE, bits, 64)

    def test_no_rows_beyond_the_shape(self):
        for power in (-1200, -400, 400, 1200):
            self.assertIsNone(check_sure(power, ()))
            self.refused(power, ((0, (1, 1, 1, 1, 0)),), DOUBLE, 64, 64)
            self.refused(power, ((),), DOUBLE, 64, 64)

    def test_no_paper_where_they_are_unsure(self):
        for power in (-300, -1, 28, 300):
            self.assertIsNone(sure_paper(power))
            wanted = rows(power, DOUBLE, 64, 64)
            self.refused(power, (), DOUBLE, 64, 64)
            whole = tuple((row[0], (1, row[3][1], 1, row[3][2] - row[3][1], 0)) for row in wanted)
            self.refused(power, whole, DOUBLE, 64, 64)

    def test_points_just_ahead_of_the_stretch(self):
        # The stretch from 0 to X begins 1 above a point of the paper's walk.
        for power, shape, bits, width in ((-9, (2, -30, 20), 5, 2), (-1, (2, -30, 20), 5, 1), (-5, (3, -25, 10), 8, 3)):
            paper = sure_paper(power, shape, bits=bits, width=width)
            self.assertIsNone(check_sure(power, paper, shape, bits=bits, width=width))
            away = [-stands_at(row[3], gap[4]) % row[3][2] for row, (exponent, gap) in zip(
                rows(power, shape, bits, width), paper)]
            self.assertIn(1, away)

    def test_points_at_the_beginning_of_the_stretch(self):
        # All that hits does so at 0, where what is open just reaches a half way.
        for power, shape, bits, width in ((-9, (2, -30, 20), 3, 1), (-4, (2, -30, 20), 7, 3), (-3, (2, -30, 20), 5, 2)):
            self.assertIsNone(sure_paper(power, shape, bits=bits, width=width))
            self.assertEqual(unsure(power, shape, bits=bits, width=width), by_all_digits(power, shape, bits, width))
            forged = tuple(
                (exponent, gap_paper(walk, 1, wide, stop=last - first))
                for exponent, first, last, walk, wide in rows(power, shape, bits, width)
            )
            self.assertNotIn(None, [gap for exponent, gap in forged])
            self.refused(power, forged, shape, bits, width)

    def test_where_the_stretch_is_as_wide_as_the_circle(self):
        # The gap's paper would be one of a stretch that has no room on its circle.
        seen = 0
        for power, bits, width in product((-3, -1, 1, 2), (2, 3, 4), (1, 2, 3)):
            for exponent, first, last, walk, wide in rows(power, (3, -2, 1), bits, width):
                seen += wide >= walk[2]
            self.assertFalse(is_let_by(check_sure, power, "", (3, -2, 1), bits=bits, width=width))
        self.assertTrue(seen > 0)

    def test_names_and_defaults(self):
        paper = sure_paper(-10, bits=128)
        self.assertIsNone(check_sure(-10, paper, bits=128))
        self.assertIsNone(check_sure(width=64, bits=128, shape=DOUBLE, paper=paper, power=-10))
        caught_from(self, NoPaper, check_sure, (-10, paper), {})
        caught_from(self, NoPaper, check_sure, (-10, paper, SINGLE), {"bits": 128})
        caught_from(self, NoPaper, check_sure, (-10, paper), {"bits": 128, "width": 63})
        caught_from(self, NoPaper, check_sure, (-11, paper), {"bits": 128})
        self.assertIsNone(check_sure(27, ()))


if __name__ == "__main__":
    unittest.main()
