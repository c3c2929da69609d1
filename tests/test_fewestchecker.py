"""[60] The checker of FIRES PAPERS."""

import itertools
import unittest

from tablebills.errors import NoFires, NoPaper
from tablebills.fewest import fewest_fires, fires_paper
from tablebills.fewestchecker import lets_fewest
from tests.kitchens import small_jobs
from tests.samples import ANY_THINGS, deep, swapped

# Two fires would do: (3, 5) is FULL by one.
JOBS = ((3, 5, 3),)
ROW = ((3, 0, 2), (4, 0, 1))
PAPER = (2, ROW, (3, 5))
EASY = ((3, 5, 2),)
ONE = (1, ((3, 0, 1), (4, 0, 1)), None)


class Checks(unittest.TestCase):
    def refused(self, word, *told, **named):
        with self.assertRaises(NoPaper) as caught:
            lets_fewest(*told, **named)
        self.assertEqual((caught.exception.word, caught.exception.at), (word, -1), (told, named))


class TestLetBy(Checks):
    def test_papers(self):
        self.assertEqual(lets_fewest(JOBS, PAPER), 2)
        self.assertEqual(lets_fewest(EASY, ONE), 1)
        self.assertEqual(lets_fewest((), (1, (), None)), 1)
        self.assertEqual(lets_fewest(((3, 3, 0),), (1, (), None)), 1)

    def test_papers_that_others_wrote(self):
        self.assertEqual(lets_fewest(JOBS, (2, ((3, 0, 1), (4, 0, 2)), (3, 5))), 2)
        # FULL by two is each of these; (1, 5) is from no begin to an end.
        jobs = ((2, 5, 9), (9, 10, 3))
        row = ((2, 0, 3), (3, 0, 3), (4, 0, 3), (9, 1, 3))
        for stretch in ((2, 5), (1, 5), (2, 6), (9, 10)):
            self.assertEqual(lets_fewest(jobs, (3, row, stretch)), 3)
        for stretch in ((0, 5), (1, 6), (2, 7), (8, 10), (9, 11), (2, 10)):
            self.refused("stretch", jobs, (3, row, stretch))

    def test_by_names(self):
        self.assertEqual(lets_fewest(thing=PAPER, jobs=JOBS), 2)
        self.refused("row", thing=PAPER, jobs=EASY)


class TestRefused(Checks):
    def test_shape(self):
        for thing in (None, True, 1, "", "abc", (), PAPER[:2], PAPER + (1,), list(PAPER), (PAPER,), [PAPER]):
            self.refused("shape", JOBS, thing)
        for fires in (None, True, False, 0, -1, -(10 ** 199), "2", (), (2,), [2], deep(20)):
            self.refused("shape", JOBS, swapped(PAPER, 0, fires))
            self.refused("shape", EASY, swapped(ONE, 0, fires))
            self.refused("shape", (), (fires, (), None))

    def test_row(self):
        for row in (None, True, 3, "", [], list(ROW), (), ROW[:1], ROW[::-1], ((3, 0, 3),), (None,), (ROW,), [ROW],
                    ((3, 0, 1), (4, 0, 1), (5, 0, 1)), ((3, 0, 2), (4, 1, 1)), ((3, 0, 2), (4, 0, True)), deep(20)):
            self.refused("row", JOBS, swapped(PAPER, 1, row))
        self.refused("row", JOBS, (1, ROW, None))
        self.refused("row", JOBS, ONE)

    def test_stretch(self):
        for stretch in (None, True, 3, "", [], [3, 5], (), (3,), (3, 5, 5), (5, 3), (3, 6), (2, 5), (4, 5), (3, 3),
                        (True, 5), (3, "5"), ((3, 5),), (-3, 5), deep(20)):
            self.refused("stretch", JOBS, swapped(PAPER, 2, stretch))

    def test_none_and_a_stretch_as_third(self):
        self.refused("stretch", JOBS, (2, ROW, None))
        for stretch in ((3, 5), (3, 3), (), 0, False, "", [], "None", (None,)):
            self.refused("stretch", EASY, swapped(ONE, 2, stretch))

    def test_more_fires_than_need_be(self):
        for fires in (3, 4, 10 ** 199):
            for stretch in ((3, 5), None, (3, 4), (3, 3)):
                self.refused("stretch", JOBS, (fires, ROW, stretch))
        self.refused("stretch", (), (2, (), None))
        self.refused("stretch", EASY, (2, ONE[1], (3, 5)))

    def test_pieces_and_no_minutes(self):
        for thing in ((1, (), None), (9, (), (7, 7)), (2, ((7, 0, 1),), (7, 7)), (2, ((6, 0, 1),), (7, 7))):
            self.refused("row", ((7, 7, 1),), thing)
        self.refused("shape", ((7, 7, 1),), None)
        self.refused("shape", ((7, 7, 1),), (0, (), (7, 7)))

    def test_the_first_of_two_goes(self):
        self.refused("shape", JOBS, (True, None, 0))
        self.refused("shape", JOBS, (0, ROW, (3, 5)))
        self.refused("shape", JOBS, ((), ()))
        self.refused("row", JOBS, (2, None, None))
        self.refused("row", JOBS, (2, ROW[:1], (3, 6)))
        self.refused("row", JOBS, (1, ROW, (3, 5)))

    def test_any_thing(self):
        for thing in ANY_THINGS:
            self.refused("shape", JOBS, thing)
            self.refused("row", JOBS, swapped(PAPER, 1, thing))
            self.refused("stretch", JOBS, swapped(PAPER, 2, thing))
            if not isinstance(thing, int):
                self.refused("shape", JOBS, swapped(PAPER, 0, thing))


class TestSo(unittest.TestCase):
    def test_what_is_let_by_are_the_fewest(self):
        stretches = [None] + [(begin, end) for begin in range(4) for end in range(begin, 4)]
        for jobs in small_jobs(2, 2, 3):
            try:
                rows = (fires_paper(jobs)[1], ())
                fewest = fewest_fires(jobs)
            except NoFires:
                rows, fewest = ((), ((0, 0, 1),)), None
            for fires, row, stretch in itertools.product(range(1, 6), rows, stretches):
                try:
                    self.assertEqual(lets_fewest(jobs, (fires, row, stretch)), fewest)
                    self.assertEqual(fires, fewest)
                except NoPaper as error:
                    self.assertIn(error.word, ("row", "stretch"))


if __name__ == "__main__":
    unittest.main()
