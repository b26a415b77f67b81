"""Walks, their points, what hits first, and papers that nothing does."""

import unittest
from itertools import product
from math import gcd

from digitway.gaps import first_hit, gap_paper, stands_at

from tests.sure_by_hand import comes_out, hits

MOST = 10**3000

# Great walks: (walk, least, most), at the bounds of the modulus and well below them.
ODD = 3**6000 % MOST
GREAT_WALKS = (
    ((0, ODD, MOST), MOST // 3, MOST // 3),
    ((MOST - 1, ODD, MOST), 0, 0),
    ((5, MOST - ODD, MOST), MOST - 1, MOST - 1),
    ((7**3000 % MOST, 1, MOST), 11, 11),
    ((7**3000 % MOST, MOST - 1, MOST), 11, 11),
    ((12345, ODD, MOST - 7), 10**2000, 10**2000 + 10**1500),
    ((12345, 7**2500, 7**3100), 10**2000, 10**2000),
    ((12345, 7**2500, 7**3100), 12345 + 7**3000, 12345 + 7**3000),
    ((1, 2**9000 + 1, 2**9900), 2**8000, 2**8000 + 2**70),
    ((1, 3**40, 2**64), 2**63, 2**63),
)


def small_walks(most):
    for modulus in range(1, most + 1):
        for start, step in product(range(modulus), repeat=2):
            yield start, step, modulus


def stretches(modulus):
    for least in range(modulus):
        for most in range(least, modulus):
            yield least, most


class Stands(unittest.TestCase):
    def test_by_steps(self):
        for walk in small_walks(7):
            start, step, modulus = walk
            at = start
            for steps in range(20):
                told = stands_at(walk, steps)
                self.assertTrue(type(told) is int)
                self.assertEqual(told, at)
                at = (at + step) % modulus

    def test_far(self):
        self.assertEqual(stands_at((0, 1, 7), 10**3000), 10**3000 % 7)
        self.assertEqual(stands_at((MOST - 1, MOST - 1, MOST), MOST), MOST - 1)
        self.assertEqual(stands_at((MOST - 1, MOST - 1, MOST), MOST - 1), 0)
        self.assertEqual(stands_at((MOST - 2, MOST - 1, MOST), 1), MOST - 3)

    def test_by_names(self):
        self.assertEqual(stands_at(steps=3, walk=(1, 2, 5)), 2)


class Small(unittest.TestCase):
    def check(self, walk, least, most, stop):
        found = hits(walk, least, most, stop, 2 * walk[2] + 1)
        told = first_hit(walk, least, most, stop=stop)
        self.assertEqual(told, found[0] if found else None, (walk, least, most, stop))
        paper = gap_paper(walk, least, most, stop=stop)
        self.assertTrue((paper is None) is bool(found), (walk, least, most, stop, paper))
        if paper is not None:
            self.assertTrue(comes_out(walk, least, most, paper, stop), (walk, least, most, stop, paper))

    def test_against_all_steps_without_a_stop(self):
        for walk in small_walks(11):
            for least, most in stretches(walk[2]):
                self.check(walk, least, most, None)

    def test_against_all_steps_with_each_stop(self):
        for walk in small_walks(9):
            for (least, most), stop in product(stretches(walk[2]), range(walk[2] + 2)):
                self.check(walk, least, most, stop)

    def test_longer_ones(self):
        for modulus in (30, 31, 36, 55, 64):
            for step in range(modulus):
                for start, least, wide in ((0, 1, 0), (modulus // 2, modulus // 3, 2), (modulus - 1, modulus - 5, 3)):
                    for stop in (None, 0, 1, 2, 7, modulus // 2, modulus - 2, modulus - 1, modulus, 10**3000):
                        self.check((start, step, modulus), least, least + wide, stop)

    def test_stop_0(self):
        self.assertEqual(first_hit((3, 1, 7), 3, 3, stop=0), 0)
        self.assertIsNone(first_hit((3, 1, 7), 4, 4, stop=0))
        self.assertEqual(first_hit((3, 1, 7), 4, 4, stop=1), 1)
        self.assertIsNone(gap_paper((3, 1, 7), 3, 3, stop=0))

    def test_modulus_1(self):
        for stop in (None, 0, 5, MOST):
            self.assertEqual(first_hit((0, 0, 1), 0, 0, stop=stop), 0)
            self.assertIsNone(gap_paper((0, 0, 1), 0, 0, stop=stop))

    def test_step_0(self):
        for stop in (None, 0, 1, 5, MOST):
            self.assertIsNone(first_hit((2, 0, 5), 3, 4, stop=stop))
            self.assertEqual(first_hit((2, 0, 5), 0, 2, stop=stop), 0)
            self.assertTrue(comes_out((2, 0, 5), 3, 4, gap_paper((2, 0, 5), 3, 4, stop=stop), stop))

    def test_common_factor(self):
        self.assertIsNone(first_hit((1, 4, 10), 0, 0))
        self.assertEqual(first_hit((1, 4, 10), 7, 7), 4)
        self.assertIsNone(first_hit((1, 4, 10), 7, 7, stop=3))

    def test_all_is_hit(self):
        for walk in small_walks(6):
            self.assertEqual(first_hit(walk, 0, walk[2] - 1), 0)
            self.assertIsNone(gap_paper(walk, 0, walk[2] - 1))

    def test_kinds(self):
        self.assertTrue(type(first_hit((1, 3, 10), 2, 2)) is int)
        paper = gap_paper((1, 3, 10), 2, 2, stop=4)
        self.assertTrue(type(paper) is tuple and len(paper) == 5 and all(type(part) is int for part in paper))

    def test_names_and_defaults(self):
        for walk, least, most in (((1, 3, 10), 2, 2), ((1, 4, 10), 2, 2)):
            for call in (first_hit, gap_paper):
                wanted = call(walk, least, most, stop=None)
                self.assertEqual(call(walk, least, most), wanted)
                self.assertEqual(call(most=most, least=least, walk=walk), wanted)
                self.assertEqual(call(stop=4, most=most, least=least, walk=walk), call(walk, least, most, stop=4))


class Great(unittest.TestCase):
    def check(self, walk, least, most):
        """The first hit hits, and no step ahead of it does, by a paper; where there is none a paper tells so."""
        found = first_hit(walk, least, most)
        if found is None:
            self.assertTrue(comes_out(walk, least, most, gap_paper(walk, least, most), None))
            return None
        self.assertTrue(least <= stands_at(walk, found) <= most)
        self.assertIsNone(gap_paper(walk, least, most))
        self.assertIsNone(gap_paper(walk, least, most, stop=found))
        self.assertEqual(first_hit(walk, least, most, stop=found), found)
        if found > 0:
            self.assertIsNone(first_hit(walk, least, most, stop=found - 1))
            paper = gap_paper(walk, least, most, stop=found - 1)
            self.assertTrue(comes_out(walk, least, most, paper, found - 1))
        return found

    def test_at_the_bounds(self):
        found = [self.check(*great) for great in GREAT_WALKS]
        # All but the walk by multiples of 7.
        self.assertEqual([place for place, at in enumerate(found) if at is None], [6])

    def test_each_step_alone_is_found(self):
        for modulus in (MOST, MOST - 1, 7**3500, 2**9965):
            for step in (ODD % modulus | 1, modulus - 1, 1, modulus // 2 + 1, modulus // 3 + 1):
                if gcd(step, modulus) == 1:
                    for at in (0, 1, 2, modulus - 1, modulus // 7, 10**1000 + 1):
                        walk = (modulus // 5, step, modulus)
                        point = stands_at(walk, at)
                        self.assertEqual(first_hit(walk, point, point), at)

    def test_none_by_a_common_factor(self):
        for factor in (2, 10, 10**1500):
            walk = (1, ODD // factor * factor % MOST, MOST)
            self.assertIsNone(self.check(walk, 2, 2))
            self.assertIsNone(self.check(walk, MOST - factor + 2 if factor > 2 else 0, MOST - 1 if factor > 2 else 0))

    def test_stops(self):
        for walk, least, most in GREAT_WALKS:
            found = first_hit(walk, least, most)
            for stop in (0, 1, 2**64, 10**1000, 10**2999, MOST):
                told = first_hit(walk, least, most, stop=stop)
                is_hit = found is not None and found <= stop
                self.assertEqual(told, found if is_hit else None)
                paper = gap_paper(walk, least, most, stop=stop)
                self.assertTrue((paper is None) is is_hit)
                self.assertTrue(paper is None or comes_out(walk, least, most, paper, stop))

    def test_where_each_quotient_is_1(self):
        # So the search takes the most turns.
        for most, leasts in ((10**300, (1, 2, 10**299, 10**150)), (MOST, (2,))):
            small, great = 1, 1
            while small + great <= most:
                small, great = great, small + great
            for least in leasts:
                self.check((0, small, great), least, least)
                self.check((3, great - small, great), least, least + 1)


if __name__ == "__main__":
    unittest.main()
