"""[53] The checker of ROWS and PART ROWS."""

import itertools
import unittest

from tablebills.errors import NoPaper
from tablebills.rowchecker import lets_row
from tests.samples import ANY_THINGS

# JOB 0 has the minutes 0 to 3, JOB 1 has 1 and 2, JOB 2 no minutes and no pieces.
JOBS = ((0, 4, 3), (1, 3, 2), (2, 2, 0))
ROW = ((0, 0, 1), (1, 0, 1), (1, 1, 1), (2, 1, 1), (3, 0, 1))


class Checks(unittest.TestCase):
    def refused(self, wanted, *told, **named):
        with self.assertRaises(NoPaper) as caught:
            lets_row(*told, **named)
        self.assertEqual((caught.exception.word, caught.exception.at), wanted, (told, named))
        self.assertNotIsInstance(caught.exception.at, bool)


class TestLetBy(Checks):
    def test_a_row(self):
        self.assertEqual(lets_row(JOBS, 2, ROW), 5)
        self.assertEqual(lets_row(JOBS, 9, ROW), 5)
        self.assertEqual(lets_row(JOBS, 2, ROW, False), 5)
        self.assertEqual(lets_row(JOBS, 2, ROW, True), 5)
        self.assertEqual(lets_row(JOBS, 5, ((2, 0, 3), (2, 1, 2))), 5)
        self.assertEqual(lets_row(JOBS, 3, ((0, 0, 3), (1, 1, 2))), 5)

    def test_a_part_row(self):
        self.assertEqual(lets_row(JOBS, 1, (), True), 0)
        self.assertEqual(lets_row(JOBS, 1, ROW[:1], True), 1)
        self.assertEqual(lets_row(JOBS, 2, ROW[1:], True), 4)
        self.assertEqual(lets_row(JOBS, 2, ((3, 0, 2),), True), 2)

    def test_no_jobs(self):
        self.assertEqual(lets_row((), 1, ()), 0)
        self.assertEqual(lets_row((), 1, (), True), 0)
        self.assertEqual(lets_row(((5, 5, 0),), 1, ()), 0)

    def test_by_names(self):
        self.assertEqual(lets_row(thing=ROW, fires=2, jobs=JOBS), 5)
        self.assertEqual(lets_row(some=True, thing=ROW[:2], fires=2, jobs=JOBS), 2)
        self.refused(("many", 0), some=False, thing=ROW[:2], fires=2, jobs=JOBS)


class TestRefused(Checks):
    def test_shape(self):
        for thing in (None, True, False, 0, -1, "", "row", [], list(ROW), [ROW]):
            for some in (True, False):
                self.refused(("shape", -1), JOBS, 2, thing, some)

    def test_row(self):
        for row in (None, True, 0, "abc", [], [0, 0, 1], (), (0, 0), (0, 0, 1, 1), ((0, 0, 1),),
                    (None, 0, 1), (0, None, 1), (0, 0, None), (True, 0, 1), (False, 0, 1), (0, False, 1), (0, 0, True),
                    (1, True, 1), ("0", 0, 1), (0, "0", 1), (0, 0, "1"), ([0], 0, 1), (0, (0,), 1), (0, 0, []),
                    (0, 3, 1), (0, -1, 1), (0, 10 ** 199, 1), (0, 0, 0), (0, 0, -1), (0, 0, -(10 ** 199))):
            for some in (True, False):
                self.refused(("row", 0), JOBS, 2, (row,), some)
                self.refused(("row", 0), JOBS, 2, (row,) + ROW, some)
        for row in (None, (3, 0), (3, 0, 1, 1), [3, 0, 1], (3, 3, 1), (3, -1, 1), (3, 0, 0), (3, 0, True)):
            self.refused(("row", 4), JOBS, 2, ROW[:4] + (row,))

    def test_rows_of_no_jobs(self):
        self.refused(("row", 0), (), 1, ((0, 0, 1),))

    def test_pairs_rise(self):
        self.refused(("row", 1), JOBS, 9, ((0, 0, 1), (0, 0, 1)))
        self.refused(("row", 1), JOBS, 9, ((0, 0, 1), (0, 0, 2)))
        self.refused(("row", 1), JOBS, 9, ((1, 1, 1), (1, 0, 1)))
        self.refused(("row", 1), JOBS, 9, ((2, 0, 1), (1, 1, 1)))
        self.refused(("row", 3), JOBS, 9, ROW[:3] + (ROW[1],))
        self.refused(("row", 2), JOBS, 9, (ROW[0], ROW[2], ROW[1]))

    def test_out(self):
        for minute in (-1, 4, 5, 10 ** 199, -(10 ** 199)):
            self.refused(("out", 0), JOBS, 2, ((minute, 0, 1),))
        for minute in (0, 3):
            self.refused(("out", 0), JOBS, 2, ((minute, 1, 1),))
        for minute in (1, 2, 3):
            self.refused(("out", 0), JOBS, 2, ((minute, 2, 1),), True)
        self.refused(("out", 3), JOBS, 2, ROW[:3] + ((3, 1, 1),))

    def test_fires(self):
        self.refused(("fires", 1), JOBS, 1, ROW)
        self.refused(("fires", 1), JOBS, 1, ROW, True)
        self.refused(("fires", 2), JOBS, 4, ((2, 0, 3), (2, 1, 2)))
        self.refused(("fires", 0), JOBS, 2, ((0, 0, 3), (1, 1, 2)))
        # The least of two minutes, also where the other has more.
        self.refused(("fires", 0), JOBS, 1, ((0, 0, 2), (1, 0, 1), (1, 1, 2)))
        self.refused(("fires", 1), JOBS, 1, ((0, 0, 1), (1, 0, 2), (2, 1, 2)))
        # Minutes that two and three figures write rise as NUMBERS.
        self.refused(("fires", 9), ((0, 200, 30),), 5, ((9, 0, 10), (10, 0, 10), (100, 0, 10)))

    def test_many(self):
        self.refused(("many", 0), JOBS, 2, ())
        self.refused(("many", 0), JOBS, 2, ROW[1:])
        self.refused(("many", 1), JOBS, 2, (ROW[0], ROW[1], ROW[3], ROW[4]))
        self.refused(("many", 1), JOBS, 9, ((0, 0, 3),))
        self.refused(("many", 0), JOBS, 9, ((0, 0, 4), (1, 1, 2)))
        self.refused(("many", 1), JOBS, 9, ((0, 0, 3), (1, 1, 3)))
        self.refused(("many", 0), JOBS, 9, ((0, 0, 4),), True)
        self.refused(("many", 1), JOBS, 9, ((1, 1, 3),), True)
        self.refused(("many", 1), JOBS, 9, ((1, 0, 2), (1, 1, 1), (2, 1, 2)), True)
        self.refused(("many", 0), JOBS, 9, ((0, 0, 2), (1, 0, 2)), True)
        self.refused(("many", 0), ((0, 4, 0), (0, 4, 0)), 9, ((0, 0, 1), (0, 1, 1)), True)

    def test_the_first_of_two_goes(self):
        # A row that is wrong goes ahead of one that is out behind it, and the other way round.
        self.refused(("row", 0), JOBS, 2, (None, (9, 0, 1)))
        self.refused(("out", 0), JOBS, 2, ((9, 0, 1), None))
        self.refused(("out", 0), JOBS, 2, ((9, 0, 1), (1, 0, 1)))
        self.refused(("row", 1), JOBS, 2, ((1, 0, 1), (-1, 0, 1)))
        # "row" goes ahead of "out" within one row.
        self.refused(("row", 0), JOBS, 2, ((9, 0, 0),))
        self.refused(("row", 0), JOBS, 2, ((9, 3, 1),))
        # Rows go ahead of fires, fires ahead of many.
        self.refused(("out", 1), JOBS, 1, ((0, 0, 2), (0, 1, 1)))
        self.refused(("row", 1), JOBS, 1, ((0, 0, 2), (1, 0, 0)))
        self.refused(("fires", 0), JOBS, 1, ((0, 0, 4),))
        self.refused(("fires", 1), JOBS, 1, ((1, 1, 5),))
        self.refused(("fires", 3), JOBS, 1, ((3, 0, 2),))
        # Of two JOBS the least goes.
        self.refused(("many", 0), JOBS, 9, ((1, 1, 3),))
        self.refused(("many", 0), JOBS, 9, ((1, 0, 4), (1, 1, 3)), True)

    def test_any_thing(self):
        for thing in ANY_THINGS:
            with self.assertRaises(NoPaper) as caught:
                lets_row(JOBS, 2, thing)
            self.assertIn((caught.exception.word, caught.exception.at), (("shape", -1), ("row", 0)))


def told_by_the_words(jobs, fires, thing, some):
    """[53] of a tuple of tuples of three NUMBERS: pieces, or the word and place of what is first."""
    for at, (minute, job, pieces) in enumerate(thing):
        if job not in range(len(jobs)) or pieces < 1:
            return "row", at
        if at and (minute, job) <= thing[at - 1][:2]:
            return "row", at
        if minute not in range(jobs[job][0], jobs[job][1]):
            return "out", at
    for minute in range(10):
        if sum(row[2] for row in thing if row[0] == minute) > fires:
            return "fires", minute
    for job in range(len(jobs)):
        laid = sum(row[2] for row in thing if row[1] == job)
        if laid > jobs[job][2] or not some and laid != jobs[job][2]:
            return "many", job
    return sum(row[2] for row in thing)


class TestAgainstTheWords(unittest.TestCase):
    def test_all_small_ones(self):
        jobs = ((0, 2, 1), (1, 3, 2))
        rows = list(itertools.product((-1, 0, 1, 2, 3), (-1, 0, 1, 2), (0, 1, 2)))
        things = [()] + [(row,) for row in rows] + list(itertools.product(rows, repeat=2))
        inner = [row for row in rows if row[1] in (0, 1) and row[2] and 0 <= row[0] < 3]
        things += list(itertools.product(inner, repeat=3))
        for thing in things:
            for fires, some in ((1, False), (2, False), (1, True), (2, True)):
                wanted = told_by_the_words(jobs, fires, thing, some)
                try:
                    told = lets_row(jobs, fires, thing, some)
                except NoPaper as error:
                    told = error.word, error.at
                self.assertEqual(told, wanted, (fires, thing, some))


if __name__ == "__main__":
    unittest.main()
