"""[61], [63], of [62] that no PART ROW has more pieces: the most in time."""

import itertools
import unittest

from tablebills.jobs import later_jobs
from tablebills.kitchen import kitchen
from tablebills.most import most, most_laid
from tablebills.rowchecker import lets_row
from tablebills.stretchchecker import lets_full
from tests.kitchens import chance_jobs, most_by_trying, small_jobs


class Checks(unittest.TestCase):
    def tells(self, laid, jobs, fires=1):
        """Looks whether so many pieces are laid, by a paper that is what [61] asks."""
        self.assertEqual(most_laid(jobs, fires), laid, (jobs, fires))
        paper = most(jobs, fires)
        self.assertIs(type(paper), tuple)
        row, stretches = paper
        self.assertEqual(lets_row(jobs, fires, row, True), laid)
        self.assertIs(type(stretches), tuple)
        over = 0
        for at, stretch in enumerate(stretches):
            over += lets_full(jobs, fires, stretch)
            self.assertTrue(at == 0 or stretch[0] > stretches[at - 1][1], stretches)
        self.assertEqual(over, sum(job[2] for job in jobs) - laid, (jobs, fires, paper))


class TestByHand(Checks):
    def test_no_jobs(self):
        self.assertEqual(most(()), ((), ()))
        self.assertEqual(most((), 9), ((), ()))
        self.assertEqual(most_laid(()), 0)

    def test_jobs_without_pieces(self):
        self.assertEqual(most(((0, 5, 0), (3, 3, 0))), ((), ()))

    def test_pieces_and_no_minutes(self):
        self.assertEqual(most(((7, 7, 4),)), ((), ((7, 7),)))
        self.tells(0, ((7, 7, 4), (7, 7, 2)), 9)
        self.tells(0, ((7, 7, 4), (8, 8, 2), (3, 3, 0)), 9)
        self.tells(2, ((7, 7, 4), (6, 8, 2)))
        self.tells(2, ((7, 7, 4), (7, 9, 3)))
        self.tells(2, ((9, 9, 4), (7, 9, 3)))

    def test_all_in_time(self):
        self.assertEqual(most(((3, 5, 2),)), (((3, 0, 1), (4, 0, 1)), ()))
        self.tells(20, ((0, 20, 10), (0, 10, 5), (5, 10, 5)))
        self.assertEqual(most(((0, 20, 10), (0, 10, 5), (5, 10, 5)))[1], ())

    def test_one_full_stretch(self):
        self.assertEqual(most(((3, 5, 3),)), (((3, 0, 1), (4, 0, 1)), ((3, 5),)))
        self.assertEqual(most(((3, 5, 9),), 4), (((3, 0, 4), (4, 0, 4)), ((3, 5),)))

    def test_several_that_lie_apart(self):
        jobs = ((0, 2, 3), (10, 12, 5), (20, 22, 2))
        self.assertEqual(most(jobs)[1], ((0, 2), (10, 12)))
        self.tells(6, jobs)
        self.assertEqual(most(jobs[::-1])[1], ((0, 2), (10, 12)))
        self.assertEqual(most(((0, 1, 2), (2, 3, 2), (4, 5, 2)))[1], ((0, 1), (2, 3), (4, 5)))

    def test_such_that_meet_are_one(self):
        self.assertEqual(most(((0, 2, 3), (2, 4, 3)))[1], ((0, 4),))
        self.assertEqual(most(((0, 2, 3), (2, 2, 1)))[1], ((0, 2),))
        self.tells(4, ((0, 2, 3), (2, 4, 3)))

    def test_not_the_widest_nor_the_fullest_alone(self):
        # (0, 10) is FULL by 2, the two within it by 4 each.
        jobs = ((0, 1, 5), (9, 10, 5), (0, 10, 2))
        self.assertEqual(most(jobs)[1], ((0, 1), (9, 10)))
        self.tells(4, jobs)
        # By more pieces of the widest it alone has the most too many.
        jobs = ((0, 1, 5), (9, 10, 5), (0, 10, 10))
        self.assertEqual(most(jobs)[1], ((0, 10),))
        self.tells(10, jobs)

    def test_the_least_end_first(self):
        # What waits for the first minutes would have none behind them.
        self.tells(2, ((0, 5, 1), (0, 1, 1)))
        self.tells(3, ((0, 3, 3), (1, 2, 1)))

    def test_fires_not_handed_in(self):
        jobs = ((0, 4, 3), (1, 3, 2))
        self.assertEqual(most(jobs), most(jobs, 1))
        self.assertEqual(most_laid(jobs), 4)
        self.assertEqual(most_laid(fires=2, jobs=jobs), 5)
        self.assertEqual(most(fires=2, jobs=jobs), most(jobs, 2))
        self.assertEqual(most_laid(jobs=jobs), 4)
        self.assertEqual(most(jobs=jobs), most(jobs))


class TestGoneThrough(Checks):
    def test_all_small_ones(self):
        for jobs in itertools.chain(small_jobs(2, 4, 4), small_jobs(3, 3, 2)):
            for fires in (1, 2):
                self.tells(most_by_trying(jobs, fires), jobs, fires)

    def test_all_of_three_with_many_pieces(self):
        for jobs in small_jobs(3, 2, 4):
            self.tells(most_by_trying(jobs, 1), jobs)

    def test_greater_ones(self):
        for seed in range(150):
            fires = seed % 3 + 1
            jobs = chance_jobs(seed, 8, 14, 9)
            self.tells(most_by_trying(jobs, fires), jobs, fires)
        many = []
        for seed in range(60):
            jobs = chance_jobs(seed, 12, 400, 60)
            jobs = tuple((begin, min(end, begin + 30), pieces) for begin, end, pieces in jobs)
            # The paper tells by itself that no PART ROW has more.
            self.tells(most_laid(jobs, 1), jobs)
            many.append(len(most(jobs)[1]))
        self.assertGreater(max(many), 2)


class TestSo(unittest.TestCase):
    """[63], and the last sentence of [62]"""

    def each(self):
        for seed in range(60):
            yield chance_jobs(seed, 6, 15, 12), seed % 3 + 1

    def lack(self, jobs, fires):
        return sum(job[2] for job in jobs) - most_laid(jobs, fires)

    def test_no_more_lack(self):
        for jobs, fires in self.each():
            lack = self.lack(jobs, fires)
            self.assertLessEqual(self.lack(jobs, fires + 1), lack)
            self.assertLessEqual(self.lack(later_jobs(jobs), fires), lack)
            for at in range(len(jobs)):
                begin, end, pieces = jobs[at]
                self.assertLessEqual(self.lack(jobs[:at] + jobs[at + 1:], fires), lack)
                self.assertLessEqual(self.lack(jobs[:at] + ((begin, end + 3, pieces),) + jobs[at + 1:], fires), lack)

    def test_minutes_and_order_turn_nothing(self):
        for jobs, fires in self.each():
            moved = tuple((begin + 50, end + 50, pieces) for begin, end, pieces in jobs)
            for other in (moved, jobs[::-1], tuple(sorted(jobs))):
                self.assertEqual(most_laid(other, fires), most_laid(jobs, fires))

    def test_where_a_row_is(self):
        for jobs, fires in self.each():
            told = kitchen(jobs, fires)
            row, stretches = most(jobs, fires)
            self.assertEqual(stretches == (), told[0] == "row")
            if told[0] == "row":
                self.assertEqual(lets_row(jobs, fires, row), sum(job[2] for job in jobs))


if __name__ == "__main__":
    unittest.main()
