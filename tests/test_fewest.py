"""[59], [63] How many fires would do, and the paper of it."""

import itertools
import unittest

from tablebills.errors import NoFires
from tablebills.fewest import fewest_fires, fires_paper
from tablebills.fewestchecker import lets_fewest
from tablebills.jobs import later_jobs
from tablebills.rowchecker import lets_row
from tablebills.stretchchecker import lets_full
from tests.kitchens import chance_jobs, has_row, small_jobs


def never(jobs):
    """The (begin, end) of the JOBS that have pieces and no minutes."""
    return [(begin, end) for begin, end, pieces in jobs if begin == end and pieces]


def by_trying(jobs):
    """[59]: the least FIRES by which the JOBS have a ROW."""
    return next(fires for fires in itertools.count(1) if has_row(jobs, fires))


class Checks(unittest.TestCase):
    def tells(self, fires, jobs):
        self.assertEqual(fewest_fires(jobs), fires, jobs)
        paper = fires_paper(jobs)
        self.assertIs(type(paper), tuple)
        self.assertEqual((len(paper), paper[0]), (3, fires))
        lets_row(jobs, fires, paper[1])
        if fires > 1:
            lets_full(jobs, fires - 1, paper[2])
        else:
            self.assertIsNone(paper[2])
        self.assertEqual(lets_fewest(jobs, paper), fires)

    def refused(self, jobs):
        for function in (fewest_fires, fires_paper):
            with self.assertRaises(NoFires) as caught:
                function(jobs)
            self.assertIn(caught.exception.stretch, never(jobs))
            self.assertIs(type(caught.exception.stretch), tuple)


class TestByHand(Checks):
    def test_no_jobs(self):
        self.assertEqual(fewest_fires(()), 1)
        self.assertEqual(fires_paper(()), (1, (), None))

    def test_jobs_without_pieces(self):
        self.assertEqual(fires_paper(((0, 5, 0),)), (1, (), None))
        self.assertEqual(fires_paper(((3, 3, 0), (0, 5, 0), (5, 5, 0))), (1, (), None))
        self.tells(2, ((3, 3, 0), (3, 5, 3), (5, 5, 0)))

    def test_pieces_and_no_minutes(self):
        for jobs in (((7, 7, 1),), ((0, 0, 60),), ((0, 9, 2), (4, 4, 1)), ((4, 4, 0), (5, 5, 2), (5, 5, 0)),
                     ((4, 4, 1), (5, 5, 2), (0, 9, 1)), ((0, 1, 60), (8, 8, 1))):
            self.refused(jobs)
        with self.assertRaises(NoFires) as caught:
            fewest_fires(jobs=((0, 9, 2), (4, 4, 1), (5, 5, 0)))
        self.assertEqual(caught.exception.stretch, (4, 4))

    def test_one_would_do(self):
        self.assertEqual(fires_paper(((3, 5, 2),)), (1, ((3, 0, 1), (4, 0, 1)), None))
        self.tells(1, ((0, 20, 10), (0, 10, 5), (5, 10, 5)))

    def test_more(self):
        self.assertEqual(fires_paper(((3, 5, 3),)), (2, ((3, 0, 2), (4, 0, 1)), (3, 5)))
        self.tells(2, ((3, 5, 4),))
        self.tells(3, ((3, 5, 5),))
        self.tells(60, ((3, 4, 60),))
        self.tells(2, ((0, 4, 3), (1, 3, 2)))
        self.tells(4, ((0, 2, 3), (10, 12, 7), (20, 22, 4)))
        self.tells(720, ((0, 1, 60),) * 12)

    def test_by_name(self):
        self.assertEqual(fewest_fires(jobs=((3, 5, 3),)), 2)
        self.assertEqual(fires_paper(jobs=((3, 5, 3),))[0], 2)


class TestGoneThrough(Checks):
    def test_all_small_ones(self):
        for jobs in itertools.chain(small_jobs(2, 3, 4), small_jobs(3, 2, 2)):
            if never(jobs):
                self.refused(jobs)
            else:
                self.tells(by_trying(jobs), jobs)

    def test_greater_ones(self):
        for seed in range(80):
            jobs = tuple(job for job in chance_jobs(seed, 6, 12, 12) if job[0] < job[1])
            self.tells(by_trying(jobs), jobs)
        for seed in range(40):
            jobs = tuple(job for job in chance_jobs(seed, 12, 400, 60) if job[0] < job[1])
            self.tells(fewest_fires(jobs), jobs)


class TestSo(unittest.TestCase):
    """[63]"""

    def each(self):
        for seed in range(40):
            yield tuple(job for job in chance_jobs(seed, 6, 15, 20) if job[0] < job[1])

    def test_no_greater(self):
        for jobs in self.each():
            fires = fewest_fires(jobs)
            self.assertLessEqual(fewest_fires(later_jobs(jobs)), fires)
            for at in range(len(jobs)):
                begin, end, pieces = jobs[at]
                self.assertLessEqual(fewest_fires(jobs[:at] + jobs[at + 1:]), fires)
                self.assertLessEqual(fewest_fires(jobs[:at] + ((begin, end + 3, pieces),) + jobs[at + 1:]), fires)

    def test_minutes_and_order_turn_nothing(self):
        for jobs in self.each():
            moved = tuple((begin + 50, end + 50, pieces) for begin, end, pieces in jobs)
            for other in (moved, jobs[::-1], tuple(sorted(jobs))):
                self.assertEqual(fewest_fires(other), fewest_fires(jobs))


if __name__ == "__main__":
    unittest.main()
