"""[64], with what [55] tells: the JOBS that a kitchen has by a BOOK."""

import copy
import unittest

from tablebills.fewest import fewest_fires, fires_paper
from tablebills.fewestchecker import lets_fewest
from tablebills.jobs import is_jobs
from tablebills.kitchen import kitchen
from tablebills.latechecker import lets_late
from tablebills.lateness import late_paper
from tablebills.most import most, most_laid
from tablebills.mostchecker import lets_most
from tablebills.ordering import jobs_of, row_of
from tablebills.rowchecker import lets_row
from tablebills.stretchchecker import lets_full
from tablebills.turns import firings
from tests.chances import BOOKS, EACH
from tests.walks import HOUSE, book

# Minutes on a fire: bun 5, ham 9, soup 10, tea 2, water 0. The wait is 40, the fires are 2.
TWO = "sit ann one | sit bob one"
ASKED = TWO + " | ask 0 bun 0 ann | ask 1 ham 0 bob | ask 2 soup 1 ann bob"
NONE = ((), ())


class Checks(unittest.TestCase):
    def told(self, wanted, text, house=HOUSE):
        self.assertEqual(jobs_of(house, book(text)), wanted, text)


class TestJobs(Checks):
    def test_no_firing(self):
        self.told(NONE, "")
        self.told(NONE, TWO)
        self.told(NONE, ASKED)
        # IDLE ones alone.
        self.told(NONE, ASKED + " | fire one 1 | rush two 0 | fire one 7")

    def test_all_fired_still(self):
        self.told((((5, 0),), ((5, 45, 14),)), ASKED + " | fire one 0")
        self.told((((5, 0),), ((5, 45, 10),)), ASKED + " | rush one 1")
        self.told((((5, 0), (6, 0)), ((5, 45, 10), (6, 46, 14))), ASKED + " | rush one 1 | fire one 0")

    def test_some_fired_still(self):
        self.told((((5, 0),), ((5, 45, 9),)), ASKED + " | fire one 0 | serve 0")
        self.told((((5, 0),), ((5, 45, 5),)), ASKED + " | fire one 0 | strike 1")
        self.told((((5, 0), (8, 0)), ((5, 45, 5), (8, 48, 10))),
                  ASKED + " | fire one 0 | serve 1 | serve 9 | rush one 1")

    def test_none_fired_still(self):
        self.told(NONE, ASKED + " | fire one 0 | serve 0 | serve 1")
        self.told(NONE, ASKED + " | fire one 0 | serve 0 | strike 1 | back 0")
        self.told((((8, 0),), ((8, 48, 10),)), ASKED + " | fire one 0 | serve 0 | serve 1 | fire one 1")
        self.told((((6, 0),), ((6, 46, 14),)), ASKED + " | rush one 1 | fire one 0 | serve 2")

    def test_changed_ahead_of_the_fire(self):
        self.told((((6, 0),), ((6, 46, 11),)), ASKED + " | change 0 tea | fire one 0")
        self.told((((7, 0),), ((7, 47, 9),)), ASKED + " | change 0 tea | change 0 water | fire one 0")
        # Behind it a "change" is IDLE.
        self.told((((5, 0),), ((5, 45, 14),)), ASKED + " | fire one 0 | change 0 tea")

    def test_items_that_want_no_minutes(self):
        # Some are FIRED still, though they have no pieces.
        self.told((((2, 0),), ((2, 42, 0),)), "sit ann one | ask 0 water 0 ann | fire one 0")
        self.assertEqual(row_of(HOUSE, book("sit ann one | ask 0 water 0 ann | fire one 0")), ("row", ()))

    def test_wait_nought(self):
        house = HOUSE[:2] + (0, 2)
        self.told((((5, 0),), ((5, 5, 14),)), ASKED + " | fire one 0", house)
        self.assertEqual(row_of(house, book(ASKED + " | fire one 0")), ("full", (5, 5)))
        self.told((((2, 0),), ((2, 2, 0),)), "sit ann one | ask 0 water 0 ann | fire one 0", house)
        self.assertEqual(row_of(house, book("sit ann one | ask 0 water 0 ann | fire one 0")), ("row", ()))

    def test_another_wait(self):
        self.told((((5, 0),), ((5, 125, 14),)), ASKED + " | fire one 0", HOUSE[:2] + (120, 9))

    def test_one_course_fired_twice(self):
        self.told((((5, 0), (7, 0)), ((5, 45, 14), (7, 47, 2))), ASKED + " | fire one 0 | ask 3 tea 0 ann | fire one 0")

    def test_of_several_tables_and_one_minute(self):
        pages = (((5, 0), ("sit", "ann", "one")), ((5, 1), ("sit", "bob", "two")), ((5, 2), ("ask", 0, "bun", 0, ("ann",))),
                 ((5, 3), ("ask", 1, "ham", 0, ("bob",))), ((9, 2), ("fire", "two", 0)), ((9, 10), ("fire", "one", 0)))
        self.assertEqual(jobs_of(HOUSE, pages), (((9, 2), (9, 10)), ((9, 49, 9), (9, 49, 5))))

    def test_moves_and_joins_turn_nothing(self):
        fired = ASKED + " | fire one 0"
        for more in ("move ann two", "join two one", "sit cy one"):
            self.told((((5, 0),), ((5, 45, 14),)), f"{fired} | {more}")

    def test_of_no_table(self):
        self.told((((2, 0),), ((2, 42, 0),)), "sit ann one | ask 0 water 0 ann | fire one 0 | go ann")

    def test_by_names(self):
        pages = book(ASKED + " | fire one 0")
        self.assertEqual(jobs_of(book=pages, house=HOUSE), (((5, 0),), ((5, 45, 14),)))
        self.assertEqual(row_of(book=pages, house=HOUSE), row_of(HOUSE, pages))

    def test_against_the_words(self):
        for pages, words in EACH:
            self.assertEqual(jobs_of(HOUSE, pages), words.jobs())
        self.assertGreater(max(len(words.jobs()[0]) for words in (each[1] for each in EACH)), 2)


class TestRow(Checks):
    def look(self, house, pages):
        """What row_of tells is what [55] asks of these JOBS by the fires of the HOUSE."""
        jobs = jobs_of(house, pages)[1]
        word, paper = row_of(house, pages)
        if word == "row":
            self.assertEqual(lets_row(jobs, house[3], paper), sum(job[2] for job in jobs))
        else:
            self.assertEqual(word, "full")
            self.assertGreater(lets_full(jobs, house[3], paper), 0)
        self.assertEqual((word, paper), kitchen(jobs, house[3]))
        return word

    def test_by_hand(self):
        self.assertEqual(row_of(HOUSE, ()), ("row", ()))
        self.assertEqual(row_of(HOUSE, book(ASKED)), ("row", ()))
        pages = book(ASKED + " | fire one 0")
        self.assertEqual(self.look(HOUSE, pages), "row")
        # 14 pieces in a wait of 7: two fires have them ready, one hasn't.
        self.assertEqual(self.look(HOUSE[:2] + (7, 2), pages), "row")
        self.assertEqual(row_of(HOUSE[:2] + (7, 1), pages), ("full", (5, 12)))
        self.assertEqual(row_of(HOUSE[:2] + (6, 2), pages), ("full", (5, 11)))
        self.assertEqual(self.look(HOUSE[:2] + (6, 3), pages), "row")

    def test_gone_through(self):
        seen = set()
        for pages in BOOKS:
            for wait, fires in ((40, 2), (5, 1), (3, 2), (0, 9), (9, 3)):
                seen.add(self.look(HOUSE[:2] + (wait, fires), pages))
        self.assertEqual(seen, {"row", "full"})

    def test_what_is_told_may_be_handed_in(self):
        for pages in BOOKS[:40]:
            names, jobs = jobs_of(HOUSE, pages)
            self.assertTrue(is_jobs(jobs))
            self.assertEqual([row[0] for row in firings(HOUSE, pages) if row[0] in names], list(names))
            self.assertEqual(lets_most(jobs, 1, most(jobs)), most_laid(jobs))
            self.assertEqual(lets_late(jobs, 1, late_paper(jobs)), late_paper(jobs)[0])
            self.assertEqual(lets_fewest(jobs, fires_paper(jobs)), fewest_fires(jobs))

    def test_nothing_is_changed_and_nothing_hangs_on_what_was_asked(self):
        """[2]"""
        house, books = copy.deepcopy(HOUSE), copy.deepcopy(BOOKS[:20])
        first = [(jobs_of(house, pages), row_of(house, pages)) for pages in books]
        second = [(jobs_of(house, pages), row_of(house, pages)) for pages in reversed(books)]
        self.assertEqual(second[::-1], first)
        self.assertEqual((house, books), (HOUSE, BOOKS[:20]))


if __name__ == "__main__":
    unittest.main()
