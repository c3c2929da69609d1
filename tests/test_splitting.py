"""[17] RESTS and SPLITS."""

import itertools
import unittest

from fractions import Fraction

from tablebills.kinds import is_number
from tablebills.splitting import rests, split


def exact_rests(total, weights):
    """[17] by fractions: the EXACT part less its CUT, times all weights."""
    whole = sum(weights)
    exact = [Fraction(total * weight, whole) for weight in weights]
    return tuple(int((part - part.__floor__()) * whole) for part in exact)


def split_by_hand(total, weights):
    """[17] word by word: one more to the greatest RESTS, one after another."""
    parts = [Fraction(total * weight, sum(weights)).__floor__() for weight in weights]
    left = list(exact_rests(total, weights))
    while sum(parts) < total:
        at = left.index(max(left))
        parts[at] += 1
        left[at] = -1
    return tuple(parts)


class TestSplitting(unittest.TestCase):
    def test_by_hand(self):
        self.assertEqual(rests(10, (1, 1, 1)), (1, 1, 1))
        self.assertEqual(split(10, (1, 1, 1)), (4, 3, 3))
        self.assertEqual(rests(100, (1, 2, 4)), (2, 4, 1))
        self.assertEqual(split(100, (1, 2, 4)), (14, 29, 57))
        self.assertEqual(rests(7, (3, 5)), (5, 3))
        self.assertEqual(split(7, (3, 5)), (3, 4))

    def test_like_rests_go_to_the_first(self):
        self.assertEqual(split(1, (1, 1)), (1, 0))
        self.assertEqual(split(11, (1, 1, 1)), (4, 4, 3))
        self.assertEqual(split(2, (1, 0, 1, 1, 1)), (1, 0, 1, 0, 0))
        self.assertEqual(split(5, (2, 2, 2, 2)), (2, 1, 1, 1))
        self.assertEqual(split(4, (1, 2, 1, 2, 1)), (1, 1, 1, 1, 0))

    def test_greatest_rest_first_wherever_it_stands(self):
        self.assertEqual(rests(3, (1, 2, 5)), (3, 6, 7))
        self.assertEqual(split(3, (1, 2, 5)), (0, 1, 2))
        self.assertEqual(split(3, (5, 2, 1)), (2, 1, 0))

    def test_weights_of_nought(self):
        self.assertEqual(split(7, (0, 3, 0, 4)), (0, 3, 0, 4))
        self.assertEqual(rests(7, (0, 3, 0, 4)), (0, 0, 0, 0))
        self.assertEqual(split(5, (0, 1, 1, 0)), (0, 3, 2, 0))

    def test_one_weight(self):
        for total in (0, 1, 99, 10 ** 12):
            for weight in (1, 7, 10 ** 9):
                self.assertEqual(split(total, (weight,)), (total,))
                self.assertEqual(rests(total, (weight,)), (0,))

    def test_total_nought(self):
        self.assertEqual(split(0, (1, 2, 0)), (0, 0, 0))
        self.assertEqual(rests(0, (1, 2, 0)), (0, 0, 0))

    def test_great_ones(self):
        self.assertEqual(split(10 ** 12, (1, 1, 1)), (333333333334, 333333333333, 333333333333))
        for weights in ((10 ** 9, 10 ** 9 - 1, 1), (999999937, 10 ** 9, 3, 0, 999999929),
                        tuple(10 ** 9 - 7 * at for at in range(12))):
            for total in (10 ** 12, 10 ** 12 - 1, 999999999989, 1):
                self.assertEqual(split(total, weights), split_by_hand(total, weights))
                self.assertEqual(rests(total, weights), exact_rests(total, weights))
                self.assertEqual(sum(split(total, weights)), total)

    def test_against_the_words(self):
        for many in (1, 2, 3, 4):
            for weights in itertools.product(range(4), repeat=many):
                if sum(weights) == 0:
                    continue
                for total in (0, 1, 2, 3, 5, 7, 10, 13):
                    self.assertEqual(rests(total, weights), exact_rests(total, weights))
                    self.assertEqual(split(total, weights), split_by_hand(total, weights))

    def test_by_names(self):
        self.assertEqual(split(weights=(1, 1, 1), total=10), (4, 3, 3))
        self.assertEqual(rests(weights=(3, 5), total=7), (5, 3))

    def test_kinds(self):
        for told in (split(10, (1, 1, 1)), rests(10, (1, 1, 1))):
            self.assertIsInstance(told, tuple)
            self.assertTrue(all(is_number(part) for part in told))


if __name__ == "__main__":
    unittest.main()
