"""[57], [63] How late JOBS come at the least, and the paper of it."""

import itertools
import unittest

from tablebills.jobs import later_jobs
from tablebills.latechecker import lets_late
from tablebills.lateness import late_paper, lateness
from tablebills.rowchecker import lets_row
from tablebills.stretchchecker import lets_full
from tests.kitchens import chance_jobs, has_row, small_jobs


def by_trying(jobs, fires):
    """[57]: the least NUMBER from 0 on such that the JOBS LATER by it have a ROW."""
    return next(late for late in itertools.count() if has_row(later_jobs(jobs, late), fires))


def by_stretches(jobs, fires):
    """The last sentence of [58], over all STRETCHES from a begin to an end."""
    told = [0]
    for begin, end in itertools.product([job[0] for job in jobs], [job[1] for job in jobs]):
        if begin <= end:
            pieces = sum(job[2] for job in jobs if begin <= job[0] and job[1] <= end)
            told.append(-(-pieces // fires) - (end - begin))
    return max(told)


class Checks(unittest.TestCase):
    def tells(self, late, jobs, fires=1):
        self.assertEqual(lateness(jobs, fires), late, (jobs, fires))
        paper = late_paper(jobs, fires)
        self.assertIs(type(paper), tuple)
        self.assertEqual((len(paper), paper[0]), (3, late))
        lets_row(later_jobs(jobs, late), fires, paper[1])
        if late:
            lets_full(later_jobs(jobs, late - 1), fires, paper[2])
        else:
            self.assertIsNone(paper[2])
        self.assertEqual(lets_late(jobs, fires, paper), late)


class TestByHand(Checks):
    def test_no_jobs(self):
        self.assertEqual(lateness(()), 0)
        self.assertEqual(late_paper(()), (0, (), None))
        self.assertEqual(late_paper((), 9), (0, (), None))

    def test_jobs_without_pieces(self):
        self.assertEqual(late_paper(((0, 5, 0), (3, 3, 0))), (0, (), None))

    def test_pieces_and_no_minutes(self):
        self.assertEqual(late_paper(((7, 7, 1),)), (1, ((7, 0, 1),), (7, 7)))
        self.tells(3, ((7, 7, 3),))
        self.tells(2, ((7, 7, 3),), 2)
        self.tells(1, ((7, 7, 3),), 3)
        self.tells(1, ((0, 0, 1), (5, 5, 1)))

    def test_in_time(self):
        self.assertEqual(late_paper(((3, 5, 2),)), (0, ((3, 0, 1), (4, 0, 1)), None))
        self.tells(0, ((0, 20, 10), (0, 10, 5), (5, 10, 5)))

    def test_late(self):
        self.assertEqual(late_paper(((3, 5, 3),)), (1, ((3, 0, 1), (4, 0, 1), (5, 0, 1)), (3, 5)))
        self.tells(4, ((3, 5, 6),))
        self.tells(1, ((3, 5, 6),), 2)
        self.tells(1, ((3, 5, 5),), 2)
        self.tells(0, ((3, 5, 6),), 3)
        self.tells(2, ((0, 4, 3), (1, 3, 2), (2, 4, 1), (9, 11, 2)))

    def test_the_worst_stretch_goes(self):
        self.tells(3, ((0, 2, 3), (10, 12, 5), (20, 22, 4)))
        self.tells(58, ((0, 2, 60),))
        self.tells(320, ((0, 400, 60),) * 12)

    def test_fires_not_handed_in(self):
        jobs = ((3, 5, 6),)
        self.assertEqual(lateness(jobs), 4)
        self.assertEqual(late_paper(jobs), late_paper(jobs, 1))
        self.assertEqual(lateness(fires=2, jobs=jobs), 1)
        self.assertEqual(late_paper(fires=2, jobs=jobs), late_paper(jobs, 2))
        self.assertEqual(lateness(jobs=jobs), 4)
        self.assertEqual(late_paper(jobs=jobs), late_paper(jobs, 1))


class TestGoneThrough(Checks):
    def test_all_small_ones(self):
        for jobs in itertools.chain(small_jobs(2, 3, 3), small_jobs(3, 2, 2)):
            for fires in (1, 2):
                late = by_trying(jobs, fires)
                self.assertEqual(late, by_stretches(jobs, fires))
                self.tells(late, jobs, fires)

    def test_greater_ones(self):
        for seed in range(60):
            jobs = chance_jobs(seed, 6, 12, 12)
            self.tells(by_trying(jobs, seed % 3 + 1), jobs, seed % 3 + 1)
        for seed in range(60):
            jobs = chance_jobs(seed, 12, 400, 60)
            self.tells(by_stretches(jobs, seed % 2 + 1), jobs, seed % 2 + 1)


class TestSo(unittest.TestCase):
    """[63]"""

    def each(self):
        for seed in range(40):
            yield chance_jobs(seed, 6, 15, 12), seed % 3 + 1

    def test_no_greater(self):
        for jobs, fires in self.each():
            late = lateness(jobs, fires)
            self.assertLessEqual(lateness(jobs, fires + 1), late)
            self.assertLessEqual(lateness(later_jobs(jobs), fires), late)
            for at in range(len(jobs)):
                begin, end, pieces = jobs[at]
                self.assertLessEqual(lateness(jobs[:at] + jobs[at + 1:], fires), late)
                self.assertLessEqual(lateness(jobs[:at] + ((begin, end + 3, pieces),) + jobs[at + 1:], fires), late)

    def test_all_minutes_greater(self):
        for jobs, fires in self.each():
            late, row, stretch = late_paper(jobs, fires)
            moved = tuple((begin + 50, end + 50, pieces) for begin, end, pieces in jobs)
            self.assertEqual(lateness(moved, fires), late)
            # The paper, its minutes greater, is one of these JOBS.
            paper = (late, tuple((minute + 50, job, pieces) for minute, job, pieces in row),
                     stretch and (stretch[0] + 50, stretch[1] + 50))
            self.assertEqual(lets_late(moved, fires, paper), late)

    def test_the_order_turns_nothing(self):
        for jobs, fires in self.each():
            self.assertEqual(lateness(jobs[::-1], fires), lateness(jobs, fires))
            self.assertEqual(lateness(tuple(sorted(jobs)), fires), lateness(jobs, fires))


if __name__ == "__main__":
    unittest.main()
