"""[18] The checker of splits."""

import itertools
import unittest

from tablebills.errors import NoPaper
from tablebills.splitchecker import lets_split
from tablebills.splitting import split
from tests.samples import ANY_THINGS


def how_far_off(total, weights, parts):
    whole = sum(weights)
    return sum(max(part * whole - total * weight, total * weight - part * whole)
               for part, weight in zip(parts, weights))


class Checks(unittest.TestCase):
    def refused(self, wanted, *told, **named):
        with self.assertRaises(NoPaper) as caught:
            lets_split(*told, **named)
        self.assertEqual((caught.exception.word, caught.exception.at), wanted, told)


class TestLetBy(Checks):
    def test_the_split(self):
        self.assertEqual(lets_split(10, (1, 1, 1), (4, 3, 3)), 4)
        self.assertEqual(lets_split(7, (3, 5), (3, 4)), 6)
        self.assertEqual(lets_split(6, (1, 2), (2, 4)), 0)
        self.assertEqual(lets_split(0, (5, 0), (0, 0)), 0)
        self.assertEqual(lets_split(9, (4,), (9,)), 0)

    def test_another_as_near(self):
        self.assertEqual(lets_split(10, (1, 1, 1), (3, 4, 3)), 4)
        self.assertEqual(lets_split(10, (1, 1, 1), (3, 3, 4)), 4)
        self.assertEqual(lets_split(1, (1, 1), (0, 1)), 2)

    def test_splits_of_many_kinds(self):
        for total in (0, 1, 99, 100, 10 ** 12, 10 ** 12 - 1):
            for weights in ((1,), (1, 1, 1), (0, 3, 0, 4), (10 ** 9, 1, 10 ** 9 - 1), tuple(range(12)), (7,) * 12):
                parts = split(total, weights)
                self.assertEqual(lets_split(total, weights, parts), how_far_off(total, weights, parts))

    def test_by_names(self):
        self.assertEqual(lets_split(thing=(4, 3, 3), weights=(1, 1, 1), total=10), 4)
        self.refused(("sum", -1), thing=(4, 3, 3), weights=(1, 1, 1), total=11)


class TestRefused(Checks):
    def test_shape(self):
        for thing in (None, True, 10, "abc", "", [4, 3, 3], [], (), (4, 6), (4, 3, 3, 0), ((4, 3, 3),), (10,)):
            self.refused(("shape", -1), 10, (1, 1, 1), thing)

    def test_number(self):
        for part in (None, True, False, "3", "", (), (3,), [], [3]):
            self.refused(("number", 0), 10, (1, 1, 1), (part, 3, 3))
            self.refused(("number", 1), 10, (1, 1, 1), (4, part, 3))
            self.refused(("number", 2), 10, (1, 1, 1), (4, 3, part))
            self.refused(("number", 1), 10, (1, 1, 1), (4, part, part))
        self.refused(("number", 0), 1, (1, 1), (True, 0))
        self.refused(("number", 1), 1, (1, 1), (1, False))

    def test_sum(self):
        for parts in ((3, 3, 3), (4, 4, 3), (0, 0, 0), (4, 3, -3), (10 ** 199, 3, 3), (4, 3, 2)):
            self.refused(("sum", -1), 10, (1, 1, 1), parts)

    def test_cut(self):
        self.refused(("cut", 0), 10, (1, 1, 1), (5, 3, 2))
        self.refused(("cut", 0), 10, (1, 1, 1), (2, 4, 4))
        self.refused(("cut", 1), 10, (1, 1, 1), (4, 2, 4))
        self.refused(("cut", 2), 10, (1, 1, 1), (4, 4, 2))
        self.refused(("cut", 0), 10, (1, 1, 1), (10 ** 199, 10 - 10 ** 199, 0))
        self.refused(("cut", 1), 10, (1, 1, 1), (3, 5, 2))
        self.refused(("cut", 0), 5, (0, 1), (-1, 6))

    def test_rest(self):
        # RESTS 5 and 3.
        self.refused(("rest", 1), 7, (3, 5), (2, 5))
        # RESTS 3, 6 and 7; two of three have one more.
        self.refused(("rest", 0), 3, (1, 2, 5), (1, 0, 2))
        self.refused(("rest", 0), 3, (1, 2, 5), (1, 1, 1))
        self.refused(("rest", 0), 3, (2, 1, 5), (1, 1, 1))
        # A weight of 0 has the REST 0.
        self.refused(("rest", 0), 1, (0, 1, 1), (1, 0, 0))
        self.refused(("rest", 1), 1, (1, 0, 1), (0, 1, 0))
        # The second of two that have one more is the first such.
        self.refused(("rest", 2), 3, (5, 2, 1), (2, 0, 1))

    def test_the_first_of_two_goes(self):
        self.refused(("shape", -1), 10, (1, 1, 1), (None, 3))
        self.refused(("number", 2), 10, (1, 1, 1), (9, 9, None))
        self.refused(("number", 0), 10, (1, 1, 1), (None, 9, None))
        self.refused(("sum", -1), 10, (1, 1, 1), (5, 3, 3))
        self.refused(("sum", -1), 7, (3, 5), (2, 6))
        # The CUT of the last is asked ahead of the REST of the first.
        self.refused(("cut", 2), 1, (0, 1, 1), (1, 1, -1))
        self.refused(("cut", 0), 10, (1, 1, 1), (5, 5, 0))

    def test_any_thing(self):
        for thing in ANY_THINGS + ((),):
            for weights in ((1, 2, 3, 4, 5), (1,), (1, 2, 3)):
                with self.assertRaises(NoPaper) as caught:
                    lets_split(10 ** 6, weights, thing)
                wanted = isinstance(thing, tuple) and len(thing) == len(weights)
                self.assertEqual(caught.exception.word != "shape", wanted)


class TestAgainstTheWords(unittest.TestCase):
    def test_let_by_just_where_none_is_less_off(self):
        for many, highest in ((2, 5), (3, 3)):
            for weights in itertools.product(range(highest), repeat=many):
                for total in (0, 1, 2, 3, 5):
                    if sum(weights):
                        self.check(total, weights)

    def check(self, total, weights):
        every = [parts for parts in itertools.product(range(-1, total + 2), repeat=len(weights))
                 if sum(parts) == total]
        least = min(how_far_off(total, weights, parts) for parts in every)
        for parts in every:
            try:
                told = lets_split(total, weights, parts)
            except NoPaper:
                told = None
            off = how_far_off(total, weights, parts)
            self.assertEqual(told, off if off == least else None, (total, weights, parts))


if __name__ == "__main__":
    unittest.main()
