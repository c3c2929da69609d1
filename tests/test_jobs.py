"""[3], [52] JOBS, those WITHIN, and LATER ones."""

import itertools
import unittest

from tablebills.jobs import is_jobs, later_jobs, within
from tests.samples import ANY_THINGS, deep, swapped

JOB = (3, 8, 5)
JOBS = ((0, 10, 4), (2, 5, 7), (5, 5, 1), (2, 10, 0), (4, 9, 30))
NO_COUNTS = (None, True, False, -1, "0", "", (), (0,), [], [0], deep(20))


class TestLook(unittest.TestCase):
    def test_right_ones(self):
        for jobs in ((), (JOB,), JOBS, (JOB, JOB), ((0, 0, 0),), ((7, 7, 9),), ((7, 8, 0),), (JOB,) * 30,
                     ((0, 10 ** 199, 10 ** 199),), ((10 ** 199, 10 ** 199, 1),)):
            self.assertIs(is_jobs(jobs), True, jobs)

    def test_begin_above_end(self):
        for begin, end in ((1, 0), (9, 8), (10 ** 199, 5)):
            self.assertIs(is_jobs(((begin, end, 1),)), False)
            self.assertIs(is_jobs((JOB, (begin, end, 0))), False)

    def test_each_place_broken_by_itself(self):
        for at in range(3):
            for part in NO_COUNTS:
                self.assertIs(is_jobs((swapped(JOB, at, part),)), False, (at, part))
                self.assertIs(is_jobs((JOB, swapped(JOB, at, part))), False, (at, part))
                self.assertIs(is_jobs((swapped(JOB, at, part), JOB)), False, (at, part))
        self.assertIs(is_jobs(((0, True, 0),)), False)
        self.assertIs(is_jobs(((False, 1, 0),)), False)

    def test_rows(self):
        for job in (None, 0, True, "", "abc", (), (3, 8), (3, 8, 5, 1), [3, 8, 5], (JOB,)):
            self.assertIs(is_jobs((job,)), False, job)
            self.assertIs(is_jobs((JOB, job)), False, job)

    def test_any_thing(self):
        for thing in ANY_THINGS + ([JOB], [], JOB, list(JOBS)):
            self.assertIs(is_jobs(thing), False, thing)
        self.assertIs(is_jobs(thing=()), True)
        self.assertIs(is_jobs(thing=(JOB,)), True)


class TestWithin(unittest.TestCase):
    def test_by_hand(self):
        self.assertEqual(within(JOBS, 0, 10), 42)
        self.assertEqual(within(JOBS, 0, 9), 38)
        self.assertEqual(within(JOBS, 1, 10), 38)
        self.assertEqual(within(JOBS, 2, 5), 8)
        self.assertEqual(within(JOBS, 3, 5), 1)
        self.assertEqual(within(JOBS, 2, 4), 0)
        self.assertEqual(within(JOBS, 5, 5), 1)
        self.assertEqual(within(JOBS, 4, 9), 31)
        self.assertEqual(within(JOBS, -5, 10 ** 12), 42)

    def test_none(self):
        self.assertEqual(within((), 0, 10), 0)
        self.assertEqual(within(JOBS, 11, 20), 0)
        self.assertEqual(within(JOBS, -9, -1), 0)

    def test_begin_above_end(self):
        for begin, end in itertools.product(range(-2, 13), repeat=2):
            if begin > end:
                self.assertEqual(within(JOBS, begin, end), 0)

    def test_against_the_words(self):
        for begin, end in itertools.product(range(-2, 13), repeat=2):
            wanted = 0
            for job in JOBS:
                sooner = job[0] < begin
                later = job[1] > end
                wanted += 0 if sooner or later else job[2]
            self.assertEqual(within(JOBS, begin, end), wanted)

    def test_by_names(self):
        self.assertEqual(within(end=5, begin=2, jobs=JOBS), 8)


class TestLater(unittest.TestCase):
    LATER = ((0, 13, 4), (2, 8, 7), (5, 8, 1), (2, 13, 0), (4, 12, 30))

    def test_by_place_and_by_name(self):
        self.assertEqual(later_jobs(JOBS, 3), self.LATER)
        self.assertEqual(later_jobs(JOBS, by=3), self.LATER)
        self.assertEqual(later_jobs(by=3, jobs=JOBS), self.LATER)

    def test_not_handed_in(self):
        self.assertEqual(later_jobs(((3, 8, 5), (1, 1, 0))), ((3, 9, 5), (1, 2, 0)))
        self.assertEqual(later_jobs(jobs=(JOB,)), ((3, 9, 5),))

    def test_nought_and_far(self):
        self.assertEqual(later_jobs(JOBS, 0), JOBS)
        self.assertEqual(later_jobs((JOB,), 10 ** 12), ((3, 10 ** 12 + 8, 5),))
        self.assertEqual(later_jobs((), 4), ())
        self.assertEqual(later_jobs(()), ())

    def test_told_are_jobs(self):
        self.assertIs(is_jobs(later_jobs(JOBS, 3)), True)
        self.assertEqual(later_jobs(later_jobs(JOBS)), later_jobs(JOBS, 2))


if __name__ == "__main__":
    unittest.main()
