"""[62], with [53], [54] and the MOST PAPER of [61]; [63] as far as it speaks of pieces that lack."""

import itertools
import unittest

from tablebills.errors import NoPaper
from tablebills.jobs import later_jobs
from tablebills.kitchen import kitchen
from tablebills.most import most, most_laid
from tablebills.mostchecker import lets_most
from tests.kitchens import chance_jobs, has_row, most_by_trying, small_jobs
from tests.samples import ANY_THINGS, deep, swapped

# By one fire (3, 5) has one piece too many, (8, 9) two.
JOBS = ((3, 5, 3), (8, 9, 3))
ROW = ((3, 0, 1), (4, 0, 1), (8, 1, 1))
STRETCHES = ((3, 5), (8, 9))
PAPER = (ROW, STRETCHES)


class Checks(unittest.TestCase):
    def refused(self, word, at, *told, **named):
        with self.assertRaises(NoPaper) as caught:
            lets_most(*told, **named)
        self.assertEqual((caught.exception.word, caught.exception.at), (word, at), (told, named))


class TestLetBy(Checks):
    def test_papers(self):
        self.assertEqual(lets_most(JOBS, 1, PAPER), 3)
        self.assertEqual(lets_most((), 1, ((), ())), 0)
        self.assertEqual(lets_most(((7, 7, 2),), 1, ((), ((7, 7),))), 0)
        self.assertEqual(lets_most(((7, 7, 0),), 1, ((), ())), 0)
        self.assertEqual(lets_most(JOBS, 3, (((3, 0, 3), (8, 1, 3)), ())), 6)
        # By two fires one lacks in (8, 9) alone.
        self.assertEqual(lets_most(JOBS, 2, (((3, 0, 2), (4, 0, 1), (8, 1, 2)), ((8, 9),))), 5)

    def test_papers_that_others_wrote(self):
        # Any of the pieces may lack: each row is as good as another.
        jobs = ((0, 2, 2), (0, 2, 2), (5, 9, 1))
        for row in (((0, 0, 1), (1, 0, 1), (5, 2, 1)), ((0, 1, 1), (1, 0, 1), (8, 2, 1)),
                    ((0, 1, 1), (1, 1, 1), (6, 2, 1))):
            self.assertEqual(lets_most(jobs, 1, (row, ((0, 2),))), 3)
        # And any STRETCHES that have just so many too many.
        jobs = ((3, 3, 9), (4, 4, 9))
        self.assertEqual(lets_most(jobs, 9, ((), ((3, 3), (4, 4)))), 0)
        self.refused("many", -1, jobs, 9, ((), ((3, 4),)))
        jobs = ((0, 2, 4), (2, 4, 3))
        self.assertEqual(lets_most(jobs, 1, (((0, 0, 1), (1, 0, 1), (2, 1, 1), (3, 1, 1)), ((0, 4),))), 4)

    def test_papers_that_most_tells(self):
        for jobs in itertools.chain(small_jobs(2, 3, 3), [chance_jobs(seed, 8, 14, 9) for seed in range(80)],
                                    [chance_jobs(seed, 12, 400, 60) for seed in range(20)]):
            for fires in (1, 2):
                self.assertEqual(lets_most(jobs, fires, most(jobs, fires)), most_laid(jobs, fires))

    def test_of_jobs_that_have_a_row(self):
        """The last sentence of [62]."""
        rows = 0
        for seed in range(80):
            jobs, fires = chance_jobs(seed, 6, 15, 6), seed % 3 + 1
            word, row = kitchen(jobs, fires)
            if word == "row":
                rows += 1
                self.assertEqual(most(jobs, fires)[1], ())
                self.assertEqual(lets_most(jobs, fires, (row, ())), sum(job[2] for job in jobs))
                self.refused("stretch", 0, jobs, fires, (row, ((0, 99),)))
        self.assertGreater(rows, 10)

    def test_by_names(self):
        self.assertEqual(lets_most(thing=PAPER, fires=1, jobs=JOBS), 3)
        self.refused("many", -1, thing=(ROW, ()), fires=1, jobs=JOBS)


class TestRefused(Checks):
    def test_shape(self):
        for thing in (None, True, 1, "", "ab", (), PAPER[:1], PAPER + ((),), list(PAPER), [PAPER], (PAPER,),
                      (list(ROW), STRETCHES), (ROW, list(STRETCHES)), (ROW, None), (None, STRETCHES), (ROW, ""),
                      ("", ()), (True, ()), ((), False), (0, 0), ([], [])):
            self.refused("shape", -1, JOBS, 1, thing)

    def test_row(self):
        for row in (ROW[::-1], ROW + ROW[-1:], ROW + ((8, 1, 1),), ((3, 0, 2),), ((2, 0, 1),), ((5, 0, 1),),
                    ((3, 1, 1),), ((3, 2, 1),), ((3, -1, 1),), ((3, 0, 0),), ((3, 0, -1),), ((3, 0),), ((3, 0, 1, 1),),
                    (None,), (ROW,), ([3, 0, 1],), ((True, 0, 1),), ((3, False, 1),), ((3, 0, True),),
                    (("3", 0, 1),), ([3], 0, 1), ((3, [0], 1),), (deep(20),)):
            self.refused("row", -1, JOBS, 1, (row, STRETCHES))

    def test_row_by_each_of_its_own_refusals(self):
        jobs = ((0, 3, 1), (5, 5, 0))
        self.refused("row", -1, jobs, 1, (((3, 0, 1),), ()))
        self.refused("row", -1, jobs, 2, (((0, 0, 2),), ()))
        self.refused("row", -1, jobs, 1, (((0, 0, 1), (1, 0, 1)), ()))
        self.refused("row", -1, ((0, 3, 2),), 1, (((0, 0, 2),), ()))
        self.assertEqual(lets_most(((0, 3, 2),), 2, (((0, 0, 2),), ())), 2)

    def test_a_part_row_is_none_of_these(self):
        # Fewer pieces than there are: it is a PART ROW, and it is "many" that goes.
        for row in ((), ROW[:1], ROW[1:], ROW[:2]):
            self.refused("many", -1, JOBS, 1, (row, STRETCHES))

    def test_stretch(self):
        for stretch in (None, True, 3, "", "ab", [], [3, 5], (), (3,), (3, 5, 5), (5, 3), (3, 6), (4, 5), (3, 3),
                        (2, 5), (True, 5), (3, "5"), ((3, 5),), (-3, 5), (3, True), ([3], 5), deep(20)):
            self.refused("stretch", 0, JOBS, 1, (ROW, (stretch, (8, 9))))
            self.refused("stretch", 0, JOBS, 1, (ROW, (stretch,)))
        for stretch in (None, False, 8, "", [8, 9], (), (9, 8), (8, 11), (9, 9), (8, True), (8, None)):
            self.refused("stretch", 1, JOBS, 1, (ROW, ((3, 5), stretch)))

    def test_stretches_that_touch(self):
        jobs = ((0, 2, 3), (2, 4, 3))
        row = ((0, 0, 1), (1, 0, 1), (2, 1, 1), (3, 1, 1))
        self.assertEqual(lets_most(jobs, 1, (row, ((0, 4),))), 4)
        self.refused("stretch", 1, jobs, 1, (row, ((0, 2), (2, 4))))
        # A minute apart they may stand.
        jobs = ((0, 2, 3), (3, 5, 3))
        row = ((0, 0, 1), (1, 0, 1), (3, 1, 1), (4, 1, 1))
        self.assertEqual(lets_most(jobs, 1, (row, ((0, 2), (3, 5)))), 4)

    def test_one_in_twice_one_out_and_the_other_way_about(self):
        self.refused("stretch", 1, JOBS, 1, (ROW, ((3, 5), (3, 5))))
        self.refused("stretch", 2, JOBS, 1, (ROW, ((3, 5), (8, 9), (8, 9))))
        self.refused("stretch", 1, JOBS, 1, (ROW, STRETCHES[::-1]))
        self.refused("many", -1, JOBS, 1, (ROW, STRETCHES[:1]))
        self.refused("many", -1, JOBS, 1, (ROW, STRETCHES[1:]))
        self.refused("many", -1, JOBS, 1, (ROW, ()))
        self.refused("many", -1, JOBS, 2, (((3, 0, 2), (4, 0, 1), (8, 1, 2)), ()))

    def test_stretches_within_one_another(self):
        jobs = ((0, 4, 9), (1, 2, 9))
        row = ((0, 0, 1), (1, 1, 1), (2, 0, 1), (3, 0, 1))
        self.assertEqual(lets_most(jobs, 1, (row, ((0, 4),))), 4)
        self.refused("stretch", 1, jobs, 1, (row, ((0, 4), (1, 2))))
        self.refused("stretch", 1, jobs, 1, (row, ((1, 2), (0, 4))))

    def test_many(self):
        # A row of fewer pieces, and one of no fewer with STRETCHES that have fewer too many.
        self.refused("many", -1, ((0, 2, 3),), 1, (((0, 0, 1),), ((0, 2),)))
        self.refused("many", -1, ((0, 2, 3), (0, 3, 1)), 1, (((0, 0, 1), (1, 0, 1)), ((0, 2),)))
        self.assertEqual(lets_most(((0, 2, 3), (0, 3, 1)), 1, (((0, 0, 1), (1, 0, 1), (2, 1, 1)), ((0, 2),))), 3)
        # One could be laid still.
        self.refused("many", -1, ((0, 3, 3),), 1, (((0, 0, 1), (1, 0, 1)), ()))

    def test_the_first_of_two_goes(self):
        bad_row, bad_stretch = ((9, 9, 9),), ((5, 3),)
        self.refused("shape", -1, JOBS, 1, (bad_row, bad_stretch, ()))
        self.refused("shape", -1, JOBS, 1, (bad_row, list(STRETCHES)))
        self.refused("shape", -1, JOBS, 1, (list(ROW), bad_stretch))
        self.refused("row", -1, JOBS, 1, (bad_row, bad_stretch))
        self.refused("row", -1, JOBS, 1, (bad_row, ()))
        self.refused("stretch", 0, JOBS, 1, (ROW[:1], bad_stretch))
        self.refused("stretch", 0, JOBS, 1, (ROW, bad_stretch + (None,)))
        self.refused("stretch", 1, JOBS, 1, (ROW, ((3, 5), None, (3, 5))))
        self.refused("stretch", 1, JOBS, 1, (ROW, ((8, 9), (3, 5), None)))

    def test_any_thing(self):
        for thing in ANY_THINGS:
            tuples = isinstance(thing, tuple) and [isinstance(part, tuple) for part in thing] == [True, True]
            self.refused("row" if tuples else "shape", -1, JOBS, 1, thing)
            if isinstance(thing, tuple):
                self.refused("row", -1, JOBS, 1, swapped(PAPER, 0, thing))
                self.refused("stretch", 0, JOBS, 1, swapped(PAPER, 1, thing))
            else:
                self.refused("shape", -1, JOBS, 1, swapped(PAPER, 0, thing))
                self.refused("shape", -1, JOBS, 1, swapped(PAPER, 1, thing))
            self.refused("row", -1, JOBS, 1, (ROW + (thing,), STRETCHES))
            self.refused("stretch", 2, JOBS, 1, (ROW, STRETCHES + (thing,)))

    def test_no_bounds(self):
        """[2]"""
        jobs = ((10 ** 50, 10 ** 50 + 1, 10 ** 60),)
        paper = (((10 ** 50, 0, 10 ** 59),), ((10 ** 50, 10 ** 50 + 1),))
        self.assertEqual(lets_most(jobs, 10 ** 59, paper), 10 ** 59)
        self.refused("many", -1, jobs, 10 ** 59, (((10 ** 50, 0, 10 ** 58),), paper[1]))


class TestSo(Checks):
    def test_what_is_let_by_has_the_most(self):
        """Over all small papers: what is let by has as many pieces as any PART ROW."""
        let = 0
        stretches = [(begin, end) for begin in range(3) for end in range(begin, 3)]
        chains = [chain for many in (0, 1, 2) for chain in itertools.product(stretches, repeat=many)]
        for jobs in small_jobs(2, 2, 2):
            pairs = [(minute, job) for minute in range(2) for job in range(len(jobs))]
            rows = [tuple((minute, job, 1) for minute, job in some)
                    for many in range(3) for some in itertools.combinations(pairs, many)]
            for row, chain in itertools.product(rows, chains):
                try:
                    self.assertEqual(lets_most(jobs, 1, (row, chain)), most_by_trying(jobs, 1))
                    self.assertEqual(len(row), most_by_trying(jobs, 1))
                    let += 1
                except NoPaper as error:
                    self.assertIn(error.word, ("row", "stretch", "many"))
        self.assertGreater(let, 100)

    def test_pieces_that_lack(self):
        """[63]"""
        def lack(jobs, fires):
            return sum(job[2] for job in jobs) - lets_most(jobs, fires, most(jobs, fires))

        for seed in range(60):
            jobs, fires = chance_jobs(seed, 6, 15, 12), seed % 3 + 1
            few = lack(jobs, fires)
            self.assertEqual(few == 0, has_row(jobs, fires))
            self.assertLessEqual(lack(jobs, fires + 1), few)
            self.assertLessEqual(lack(later_jobs(jobs), fires), few)
            for at in range(len(jobs)):
                self.assertLessEqual(lack(jobs[:at] + jobs[at + 1:], fires), few)
            self.assertEqual(lack(jobs[::-1], fires), few)
            moved = tuple((begin + 9, end + 9, pieces) for begin, end, pieces in jobs)
            self.assertEqual(lack(moved, fires), few)
            # The paper itself is right of the moved JOBS, all its minutes greater.
            row, chain = most(jobs, fires)
            self.assertEqual(lets_most(moved, fires, (tuple((row[0] + 9,) + row[1:] for row in row),
                                                      tuple((begin + 9, end + 9) for begin, end in chain))),
                             most_laid(jobs, fires))


if __name__ == "__main__":
    unittest.main()
