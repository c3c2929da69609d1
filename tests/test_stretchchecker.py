"""[54] The checker of FULL STRETCHES."""

import unittest

from tablebills.errors import NoPaper
from tablebills.stretchchecker import lets_full
from tests.kitchens import has_row, small_jobs
from tests.samples import ANY_THINGS, deep

# WITHIN (2, 5) are 7 pieces and 1 of no minutes, WITHIN (0, 10) 42.
JOBS = ((0, 10, 4), (2, 5, 7), (5, 5, 1), (2, 10, 0), (4, 9, 30))


class Checks(unittest.TestCase):
    def refused(self, wanted, *told, **named):
        with self.assertRaises(NoPaper) as caught:
            lets_full(*told, **named)
        self.assertEqual((caught.exception.word, caught.exception.at), wanted, (told, named))


class TestLetBy(Checks):
    def test_by_how_many_pieces(self):
        self.assertEqual(lets_full(JOBS, 1, (2, 5)), 5)
        self.assertEqual(lets_full(JOBS, 2, (2, 5)), 2)
        self.assertEqual(lets_full(JOBS, 1, (0, 10)), 32)
        self.assertEqual(lets_full(JOBS, 4, (0, 10)), 2)
        self.assertEqual(lets_full(JOBS, 5, (4, 9)), 6)
        self.assertEqual(lets_full(JOBS, 6, (4, 9)), 1)

    def test_just_more(self):
        self.assertEqual(lets_full(((3, 8, 6),), 1, (3, 8)), 1)
        self.refused(("full", -1), ((3, 8, 5),), 1, (3, 8))
        self.refused(("full", -1), ((3, 8, 4),), 1, (3, 8))
        self.assertEqual(lets_full(((3, 8, 11),), 2, (3, 8)), 1)
        self.refused(("full", -1), ((3, 8, 10),), 2, (3, 8))

    def test_begin_as_end(self):
        self.assertEqual(lets_full(JOBS, 1, (5, 5)), 1)
        self.assertEqual(lets_full(JOBS, 9, (5, 5)), 1)
        self.assertEqual(lets_full(((0, 0, 3), (0, 0, 4), (0, 1, 9)), 9, (0, 0)), 7)
        self.refused(("full", -1), JOBS, 1, (4, 4))
        self.refused(("full", -1), ((5, 5, 0),), 1, (5, 5))

    def test_no_begin_and_no_end_of_a_job(self):
        self.assertEqual(lets_full(JOBS, 1, (1, 6)), 3)
        self.assertEqual(lets_full(JOBS, 1, (0, 20)), 22)
        self.refused(("full", -1), JOBS, 1, (3, 8))

    def test_beyond_the_bounds(self):
        self.assertEqual(lets_full(((0, 10 ** 50, 10 ** 60),), 2, (0, 10 ** 50)), 10 ** 60 - 2 * 10 ** 50)
        self.refused(("full", -1), JOBS, 1, (0, 10 ** 199))
        self.refused(("full", -1), JOBS, 10 ** 30, (0, 10))

    def test_by_names(self):
        self.assertEqual(lets_full(thing=(2, 5), fires=2, jobs=JOBS), 2)
        self.refused(("full", -1), thing=(2, 5), fires=3, jobs=JOBS)


class TestRefused(Checks):
    def test_shape(self):
        for thing in (None, True, 0, "", "25", [], [2, 5], (), (2,), (2, 5, 7), ((2, 5),), [(2, 5)]):
            self.refused(("shape", -1), JOBS, 1, thing)

    def test_no_numbers_from_nought_on(self):
        for part in (None, True, False, -1, -(10 ** 199), "2", "", (), (2,), [], [2], deep(18)):
            for thing in ((part, 5), (2, part), (part, part)):
                self.refused(("shape", -1), JOBS, 1, thing)
        self.refused(("shape", -1), ((0, 1, 9),), 1, (False, True))
        self.refused(("shape", -1), ((0, 1, 9),), 1, (0, True))
        self.refused(("shape", -1), ((0, 1, 9),), 1, (False, 1))

    def test_begin_above_end(self):
        for thing in ((5, 2), (6, 5), (1, 0), (10 ** 199, 0)):
            self.refused(("shape", -1), JOBS, 1, thing)

    def test_not_full(self):
        for thing in ((0, 0), (0, 1), (2, 4), (3, 4), (10, 10), (11, 99)):
            self.refused(("full", -1), JOBS, 1, thing)
        self.refused(("full", -1), (), 1, (0, 0))
        self.refused(("full", -1), (), 1, (0, 5))

    def test_the_first_of_two_goes(self):
        # Neither a STRETCH nor, were it one, FULL.
        for thing in ([11, 99], (99, 11), (True, 99), (11, False), (11, 99, 0), (-1, 0)):
            self.refused(("shape", -1), JOBS, 1, thing)

    def test_any_thing(self):
        for thing in ANY_THINGS:
            if thing != (1, 2):
                self.refused(("shape", -1), JOBS, 1, thing)
        self.refused(("full", -1), JOBS, 1, (1, 2))


class TestSo(unittest.TestCase):
    def test_no_row_is_where_one_is_full(self):
        stretches = [(begin, end) for begin in range(4) for end in range(begin, 4)]
        for jobs in small_jobs(2, 3, 3):
            for stretch in stretches:
                begin, end = stretch
                wanted = sum(job[2] for job in jobs if begin <= job[0] <= job[1] <= end) - 2 * (end - begin)
                try:
                    told = lets_full(jobs, 2, stretch)
                except NoPaper as error:
                    self.assertEqual((error.word, error.at), ("full", -1))
                    self.assertLessEqual(wanted, 0)
                else:
                    self.assertEqual(told, wanted)
                    self.assertGreater(told, 0)
                    self.assertFalse(has_row(jobs, 2))


if __name__ == "__main__":
    unittest.main()
