"""[58] The checker of LATE PAPERS."""

import itertools
import unittest

from tablebills.errors import NoPaper
from tablebills.latechecker import lets_late
from tablebills.lateness import late_paper, lateness
from tests.kitchens import small_jobs
from tests.samples import ANY_THINGS, deep, swapped

# One minute late by one fire: (3, 5) is FULL.
JOBS = ((3, 5, 3),)
ROW = ((3, 0, 1), (4, 0, 1), (5, 0, 1))
PAPER = (1, ROW, (3, 5))
IN_TIME = (0, ((3, 0, 2), (4, 0, 1)), None)


class Checks(unittest.TestCase):
    def refused(self, word, *told, **named):
        with self.assertRaises(NoPaper) as caught:
            lets_late(*told, **named)
        self.assertEqual((caught.exception.word, caught.exception.at), (word, -1), (told, named))


class TestLetBy(Checks):
    def test_papers(self):
        self.assertEqual(lets_late(JOBS, 1, PAPER), 1)
        self.assertEqual(lets_late(JOBS, 2, IN_TIME), 0)
        self.assertEqual(lets_late((), 1, (0, (), None)), 0)
        self.assertEqual(lets_late(((7, 7, 2),), 1, (2, ((7, 0, 1), (8, 0, 1)), (7, 8))), 2)
        self.assertEqual(lets_late(((7, 7, 2),), 2, (1, ((7, 0, 2),), (7, 7))), 1)

    def test_papers_that_others_wrote(self):
        jobs = ((0, 2, 2), (0, 2, 2), (5, 9, 1))
        rows = (((0, 0, 1), (1, 1, 1), (2, 0, 1), (3, 1, 1), (9, 2, 1)),
                ((0, 1, 1), (1, 1, 1), (2, 0, 1), (3, 0, 1), (5, 2, 1)),
                late_paper(jobs)[1])
        for row in rows:
            # By 1 the pieces WITHIN (0, 3) are 4, one too many; none is too many by more minutes.
            self.assertEqual(lets_late(jobs, 1, (2, row, (0, 3))), 2)
            self.refused("stretch", jobs, 1, (2, row, (0, 4)))
            self.refused("stretch", jobs, 1, (2, row, (0, 2)))
        # Each of the FULL STRETCHES is as good as another.
        row = ((3, 0, 9), (4, 1, 9))
        for stretch in ((3, 3), (3, 4), (4, 4)):
            self.assertEqual(lets_late(((3, 3, 9), (4, 4, 9)), 9, (1, row, stretch)), 1)

    def test_by_names(self):
        self.assertEqual(lets_late(thing=PAPER, fires=1, jobs=JOBS), 1)
        self.refused("stretch", thing=swapped(PAPER, 2, None), fires=1, jobs=JOBS)


class TestRefused(Checks):
    def test_shape(self):
        for thing in (None, True, 1, "", "abc", (), PAPER[:2], PAPER + (1,), list(PAPER), (PAPER,), [PAPER]):
            self.refused("shape", JOBS, 1, thing)
        for late in (None, True, False, -1, -(10 ** 199), "1", (), (1,), [1], deep(20)):
            self.refused("shape", JOBS, 1, swapped(PAPER, 0, late))
            self.refused("shape", JOBS, 2, swapped(IN_TIME, 0, late))

    def test_row(self):
        for row in (None, True, 3, "", [], list(ROW), (), ROW[:2], ROW[::-1], ROW + ROW[-1:], ((3, 0, 3),), (None,),
                    ROW[:2] + ((6, 0, 1),), ROW[:2] + ((5, 1, 1),), ROW[:2] + ((True, 0, 1),), [ROW], (ROW,), deep(20)):
            self.refused("row", JOBS, 1, swapped(PAPER, 1, row))
        # The very JOBS, not the LATER ones, want a minute more.
        self.refused("row", JOBS, 1, (0, ROW, None))
        self.refused("row", JOBS, 1, (0, ROW[:2], None))
        self.refused("row", JOBS, 1, IN_TIME)

    def test_stretch(self):
        for stretch in (None, True, 3, "", [], [3, 5], (), (3,), (3, 5, 5), (5, 3), (3, 6), (2, 5), (4, 5), (3, 3),
                        (True, 5), (3, "5"), ((3, 5),), (-3, 5), deep(20)):
            self.refused("stretch", JOBS, 1, swapped(PAPER, 2, stretch))

    def test_none_and_a_stretch_as_third(self):
        self.refused("stretch", JOBS, 1, (1, ROW, None))
        for stretch in ((3, 5), (3, 4), (), 0, False, "", [], "None", (None,)):
            self.refused("stretch", JOBS, 2, swapped(IN_TIME, 2, stretch))
        self.refused("stretch", (), 1, (0, (), (0, 0)))

    def test_too_late(self):
        # A ROW that is later than need be has no FULL STRETCH ahead of it.
        row = ((3, 0, 1), (4, 0, 1), (6, 0, 1))
        for stretch in ((3, 5), (3, 6), (3, 7), None, (0, 99)):
            self.refused("stretch", JOBS, 1, (2, row, stretch))
        self.refused("stretch", JOBS, 1, (10 ** 199, ROW, (3, 5)))

    def test_the_first_of_two_goes(self):
        self.refused("shape", JOBS, 1, (True, None, 0))
        self.refused("shape", JOBS, 1, (-1, ROW, (3, 5)))
        self.refused("shape", JOBS, 1, ((), ()))
        self.refused("row", JOBS, 1, (1, None, None))
        self.refused("row", JOBS, 1, (1, ROW[:2], (3, 6)))
        self.refused("row", JOBS, 1, (0, ROW, (3, 5)))

    def test_any_thing(self):
        for thing in ANY_THINGS:
            self.refused("shape", JOBS, 1, thing)
            self.refused("row", JOBS, 1, swapped(PAPER, 1, thing))
            self.refused("stretch", JOBS, 1, swapped(PAPER, 2, thing))
            if not isinstance(thing, int):
                self.refused("shape", JOBS, 1, swapped(PAPER, 0, thing))


class TestSo(unittest.TestCase):
    def test_what_is_let_by_is_the_lateness(self):
        for jobs in small_jobs(2, 2, 2):
            paper = late_paper(jobs)
            rows = [late_paper(jobs, 9)[1], paper[1], ()]
            stretches = [None] + [(begin, end) for begin in range(4) for end in range(begin, 6)]
            for late, row, stretch in itertools.product(range(5), rows, stretches):
                try:
                    self.assertEqual(lets_late(jobs, 1, (late, row, stretch)), lateness(jobs))
                    self.assertEqual(late, lateness(jobs))
                except NoPaper as error:
                    self.assertIn(error.word, ("row", "stretch"))


if __name__ == "__main__":
    unittest.main()
