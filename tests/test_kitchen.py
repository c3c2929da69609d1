"""[55], [56] What a kitchen can have ready in time."""

import itertools
import unittest

from tablebills.errors import NoPaper
from tablebills.kitchen import kitchen
from tablebills.rowchecker import lets_row
from tablebills.stretchchecker import lets_full
from tests.kitchens import chance_jobs, has_row, small_jobs

PAPERS = {"row": lets_row, "full": lets_full}


class Checks(unittest.TestCase):
    def tells(self, word, jobs, fires=1):
        """Looks whether such a paper is told, and let by as this alone."""
        told = kitchen(jobs, fires)
        self.assertIs(type(told), tuple)
        self.assertEqual((len(told), told[0]), (2, word), (jobs, fires))
        for kind, checker in PAPERS.items():
            if kind == word:
                checker(jobs, fires, told[1])
            else:
                with self.assertRaises(NoPaper):
                    checker(jobs, fires, told[1])
        return told[1]


class TestByHand(Checks):
    def test_no_jobs(self):
        self.assertEqual(kitchen(()), ("row", ()))
        self.assertEqual(kitchen((), 9), ("row", ()))

    def test_jobs_without_pieces(self):
        self.assertEqual(kitchen(((0, 5, 0), (3, 3, 0))), ("row", ()))

    def test_without_minutes_and_with_pieces(self):
        for jobs in (((7, 7, 1),), ((0, 0, 60),), ((0, 9, 2), (4, 4, 1), (2, 8, 3))):
            for fires in (1, 9):
                self.tells("full", jobs, fires)
        self.assertEqual(kitchen(((7, 7, 1),), 9), ("full", (7, 7)))

    def test_one_row_alone(self):
        self.assertEqual(kitchen(((3, 5, 2),)), ("row", ((3, 0, 1), (4, 0, 1))))
        self.assertEqual(kitchen(((3, 4, 2),), 2), ("row", ((3, 0, 2),)))
        self.assertEqual(kitchen(((0, 2, 1), (0, 1, 1))), ("row", ((0, 1, 1), (1, 0, 1))))

    def test_one_full_stretch_alone(self):
        self.assertEqual(kitchen(((3, 5, 3),)), ("full", (3, 5)))
        self.assertEqual(kitchen(((0, 9, 1), (3, 5, 3), (4, 8, 1))), ("full", (3, 5)))
        # Of the begins and ends of these JOBS none but (2, 6) is FULL.
        self.assertEqual(kitchen(((2, 5, 2), (3, 6, 3), (0, 9, 1))), ("full", (2, 6)))
        self.assertEqual(kitchen(((2, 5, 4), (3, 6, 5), (0, 9, 1)), 2), ("full", (2, 6)))

    def test_several_begins_and_ends(self):
        self.tells("row", ((0, 4, 2), (1, 3, 1), (2, 6, 3)))
        self.tells("full", ((0, 4, 2), (1, 3, 2), (2, 6, 3)))
        self.tells("row", ((0, 4, 2), (1, 3, 2), (2, 6, 3)), 2)
        # What ends last waits, though it began first and has the first place.
        self.tells("row", ((0, 20, 10), (0, 10, 5), (5, 10, 5)))
        # What ends first comes later, and goes ahead all the same.
        self.tells("row", ((0, 5, 3), (2, 3, 1), (3, 4, 1)))
        # Minutes between, where nothing waits, are left out.
        self.assertEqual(kitchen(((90000, 90002, 1), (3, 9, 1))), ("row", ((3, 1, 1), (90000, 0, 1))))

    def test_pieces_on_several_fires_and_not_in_a_row(self):
        self.assertEqual(kitchen(((0, 1, 9),), 9), ("row", ((0, 0, 9),)))
        self.assertEqual(kitchen(((0, 3, 2), (1, 2, 1))), ("row", ((0, 0, 1), (1, 1, 1), (2, 0, 1))))

    def test_fires_not_handed_in(self):
        jobs = ((0, 4, 3), (1, 3, 2))
        self.assertEqual(kitchen(jobs), kitchen(jobs, 1))
        self.assertEqual(kitchen(jobs)[0], "full")
        self.assertEqual(kitchen(jobs, 2)[0], "row")
        self.assertEqual(kitchen(fires=2, jobs=jobs), kitchen(jobs, 2))
        self.assertEqual(kitchen(jobs=jobs), kitchen(jobs, 1))

    def test_more_pieces_than_ever_could_be(self):
        self.assertEqual(kitchen(((0, 400, 10 ** 50),), 9), ("full", (0, 400)))


class TestGoneThrough(Checks):
    def test_all_small_ones(self):
        for jobs in itertools.chain(small_jobs(2, 4, 5), small_jobs(3, 3, 2)):
            for fires in (1, 2, 3):
                self.tells("row" if has_row(jobs, fires) else "full", jobs, fires)

    def test_one_fire_and_three_jobs(self):
        for jobs in small_jobs(3, 3, 3):
            self.tells("row" if has_row(jobs, 1) else "full", jobs)

    def test_the_places_turn_nothing_else(self):
        for jobs in (((0, 4, 2), (1, 3, 1), (2, 6, 3)), ((0, 4, 2), (1, 3, 2), (2, 6, 3)),
                     ((0, 2, 2), (1, 1, 0), (1, 3, 1))):
            for placed in itertools.permutations(jobs):
                self.tells(kitchen(jobs)[0], placed)

    def test_greater_ones(self):
        words = []
        for seed in range(150):
            fires = seed % 9 + 1
            jobs = chance_jobs(seed, 12, 400, 60)
            words.append(kitchen(jobs, fires)[0])
            self.tells(words[-1], jobs, fires)
        for seed in range(150):
            fires = seed % 3 + 1
            jobs = chance_jobs(seed, 6, 12, 9)
            words.append(kitchen(jobs, fires)[0])
            self.tells("row" if has_row(jobs, fires) else "full", jobs, fires)
        self.assertGreater(min(words.count("row"), words.count("full")), 50)


if __name__ == "__main__":
    unittest.main()
