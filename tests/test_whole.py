"""[7], and [2], [34], [35], [49], [63], [77] over the whole program."""

import copy
import random
import unittest

from tablebills.accountchecker import lets_account
from tablebills.accounts import account
from tablebills.bills import Bill, bill_of, bills_of
from tablebills.books import book_of, until
from tablebills.desk import Desk
from tablebills.diaries import Diary
from tablebills.fewest import fewest_fires, fires_paper
from tablebills.fewestchecker import lets_fewest
from tablebills.kitchen import kitchen
from tablebills.latechecker import lets_late
from tablebills.lateness import late_paper, lateness
from tablebills.lines import shown_house, shown_page, shown_pages
from tablebills.most import most, most_laid
from tablebills.mostchecker import lets_most
from tablebills.naming import house_later, renamed
from tablebills.ordering import jobs_of, row_of
from tablebills.paying import owes, sums, to_pay
from tablebills.readings import read_pages
from tablebills.rowchecker import lets_row
from tablebills.runs import run, shares_of
from tablebills.stretchchecker import lets_full
from tablebills.turnchecker import lets_turns
from tablebills.turns import barred, firings, may_fire
from tablebills.walking import dishes, history, idle, sitting, table_of
from tablebills.without import backed
from tests.chances import BOOKS
from tests.walks import HOUSE, SEATS, TABLES, book

LIVING = ("asked", "fired", "served")
PARTIES = (("ann",), ("ann", "bob"), ("ann", "bob", "cy"), ("bob", "cy"))
WAITS = ((40, 2), (6, 1), (2, 3), (0, 9))


def everything(house, pages):
    """All that is told of a HOUSE and a BOOK but the IDLE PAGES."""
    rows = dishes(house, pages)
    return {
        "sitting": sitting(house, pages), "dishes": rows, "firings": firings(house, pages),
        "tables": [table_of(house, pages, row[0]) for row in rows],
        "histories": [history(house, pages, row[0]) for row in rows],
        "barred": [barred(house, pages, table, course) for table in TABLES for course in range(4)],
        "may": [may_fire(house, pages, table, course) for table in TABLES for course in range(4)],
        "runs": [run(house, pages, seats) for seats in PARTIES],
        "shares": [shares_of(house, pages, row[0]) for row in rows],
        "pay": to_pay(house, pages), "sums": sums(house, pages),
        "accounts": [account(house, pages, seat) for seat, table in sitting(house, pages)],
        "bills": [str(bill) for table in TABLES + ("",) for bill in bills_of(house, pages, table)],
        "without": [backed(house, pages, row[0]) for row in rows if row[1] in LIVING],
        "jobs": jobs_of(house, pages), "row": row_of(house, pages),
    }


class TestDishes(unittest.TestCase):
    def test_each_once(self):
        """Asked once, fired once, served once; and goes back or is struck once, or neither."""
        for pages in BOOKS:
            for row in dishes(HOUSE, pages):
                words = [word for name, word in history(HOUSE, pages, row[0])]
                for word in ("asked", "fired", "served"):
                    self.assertLessEqual(words.count(word), 1)
                self.assertEqual(words.count("asked"), 1)
                self.assertLessEqual(words.count("back") + words.count("struck"), 1)

    def test_no_course_ahead_of_its_turn_but_by_rush(self):
        for pages in BOOKS:
            for name, word, table, course, numbers, bars in firings(HOUSE, pages):
                self.assertTrue(word == "rush" or bars == ())


class TestPence(unittest.TestCase):
    def test_costs_are_paid_and_left(self):
        for pages in BOOKS:
            costs, paid, left = sums(HOUSE, pages)
            living = [row for row in dishes(HOUSE, pages) if row[1] in LIVING]
            lazy = dict(idle(HOUSE, pages))
            self.assertEqual(costs, sum(row[5] for row in living))
            self.assertEqual(paid, sum(deed[2] for name, deed in pages if deed[0] == "pay" and name not in lazy))
            self.assertEqual(left, sum(pence for seat, pence in to_pay(HOUSE, pages)))
            self.assertEqual(costs, paid + left)
            bills = [bill for table in TABLES + ("",) for bill in bills_of(HOUSE, pages, table)]
            self.assertEqual(sum(bill.total() for bill in bills), left)

    def test_shares_come_to_the_cost(self):
        for pages in BOOKS:
            for row in dishes(HOUSE, pages):
                self.assertEqual(sum(pence for seat, pence in shares_of(HOUSE, pages, row[0])), row[5])

    def test_where_all_live_each_has_the_same_to_one_penny(self):
        for seed in range(20):
            dice = random.Random(seed)
            text = "sit ann one | sit bob one | sit cy one" + "".join(
                f" | ask {dish} {dice.choice(('ham', 'bun', 'tea', 'soup'))} 0 ann bob cy" for dish in range(17))
            pence = [pence for seat, pence in to_pay(HOUSE, book(text))]
            self.assertLessEqual(max(pence) - min(pence), 1)

    def test_a_dish_that_goes_turns_its_own_seats_alone(self):
        for pages in BOOKS[:60]:
            for row in dishes(HOUSE, pages, "served"):
                more = pages + (((10 ** 5, 0), ("back", row[0])),)
                shares = dict(shares_of(HOUSE, pages, row[0]))
                self.assertEqual(to_pay(HOUSE, more), tuple((seat, pence - shares.get(seat, 0))
                                                            for seat, pence in to_pay(HOUSE, pages)))


class TestPages(unittest.TestCase):
    def test_in_any_order_and_several_times(self):
        for seed, pages in enumerate(BOOKS[:20]):
            mixed = list(pages + pages[3:30:2])
            random.Random(seed).shuffle(mixed)
            self.assertEqual(everything(HOUSE, book_of(tuple(mixed))), everything(HOUSE, pages))
            diary = Diary(HOUSE)
            for page in mixed:
                diary.tell(page)
            self.assertEqual(everything(diary.house(), diary.book()), everything(HOUSE, pages))

    def test_taken_back(self):
        for seed, pages in enumerate(BOOKS[:20]):
            dice, diary = random.Random(seed), Diary(HOUSE)
            some = tuple(sorted(dice.sample(pages, 25)))
            diary.bring(some)
            for page in pages:
                diary.tell(page)
            self.assertEqual(diary.book(), pages)
            diary.back(diary.steps() - 1)
            self.assertEqual(everything(HOUSE, diary.book()), everything(HOUSE, some))

    def test_one_that_is_idle_left_out(self):
        for seed, pages in enumerate(BOOKS[:40]):
            lazy = idle(HOUSE, pages)
            one = random.Random(seed).choice(lazy)
            fewer = tuple(page for page in pages if page[0] != one[0])
            self.assertEqual(everything(HOUSE, fewer), everything(HOUSE, pages))
            self.assertEqual(idle(HOUSE, fewer), tuple(row for row in lazy if row != one))

    def test_elder_views_as_they_were(self):
        for pages in BOOKS[:10]:
            views = {}
            for many, (name, deed) in enumerate(pages):
                # By the PAGES up to each minute, as told when these were all.
                if many + 1 == len(pages) or pages[many + 1][0][0] > name[0]:
                    views[name[0]] = (to_pay(HOUSE, pages[:many + 1]), firings(HOUSE, pages[:many + 1]),
                                      idle(HOUSE, pages[:many + 1]))
            diary = Diary(HOUSE)
            diary.bring(pages)
            for minute, (pay, fired, lazy) in views.items():
                self.assertEqual(to_pay(HOUSE, pages, minute), pay)
                self.assertEqual(tuple(row for row in firings(HOUSE, pages) if row[0][0] <= minute), fired)
                self.assertEqual(tuple(row for row in idle(HOUSE, pages) if row[0][0] <= minute), lazy)
                self.assertEqual(diary.until((minute, 10 ** 6)), until(pages, minute))

    def test_moves_and_joins_turn_tables_alone(self):
        """[33]"""
        tables = ("sitting", "tables", "barred", "may", "bills")
        for seed, pages in enumerate(BOOKS[:20]):
            dice = random.Random(seed)
            for deed in (("move", dice.choice(SEATS), dice.choice(TABLES)), ("join",) + tuple(dice.sample(TABLES, 2))):
                ahead, behind = everything(HOUSE, pages), everything(HOUSE, pages + (((10 ** 5, 0), deed),))
                for part in ahead:
                    if part not in tables:
                        self.assertEqual(behind[part], ahead[part], part)

    def test_later_and_by_other_names(self):
        """[77]"""
        names = (("ann", "bea"), ("bob", "bo"), ("one", "six"), ("two", "ten"))
        for pages in BOOKS[:20]:
            house, moved = house_later(HOUSE, 77), renamed(pages, names, 77)
            self.assertEqual([(minute - 77, number, reason) for (minute, number), reason in idle(house, moved)],
                             [(minute, number, reason) for (minute, number), reason in idle(HOUSE, pages)])
            self.assertEqual([pence for seat, pence in to_pay(house, moved)], [pence for seat, pence in to_pay(HOUSE, pages)])
            self.assertEqual([row[4:] for row in firings(house, moved)], [row[4:] for row in firings(HOUSE, pages)])


class TestKitchen(unittest.TestCase):
    def test_each_with_a_paper(self):
        for pages in BOOKS:
            for wait, fires in WAITS:
                house = HOUSE[:2] + (wait, fires)
                jobs = jobs_of(house, pages)[1]
                word, paper = row_of(house, pages)
                looks = {"row": lets_row, "full": lets_full}
                self.assertGreaterEqual(looks[word](jobs, fires, paper), 0)
                self.assertEqual(lets_late(jobs, fires, late_paper(jobs, fires)), lateness(jobs, fires))
                self.assertEqual(lateness(jobs, fires) == 0, word == "row")
                self.assertEqual(lets_most(jobs, fires, most(jobs, fires)), most_laid(jobs, fires))
                if wait > 0:
                    self.assertEqual(lets_fewest(jobs, fires_paper(jobs)), fewest_fires(jobs))
                    self.assertEqual(fewest_fires(jobs) <= fires, word == "row")

    def test_more_fires_ends_later_a_job_less(self):
        """[63]"""
        for pages in BOOKS[:60]:
            jobs = jobs_of(HOUSE[:2] + (6, 1), pages)[1]
            later, lack = lateness(jobs), sum(job[2] for job in jobs) - most_laid(jobs)
            longer = jobs_of(HOUSE[:2] + (7, 1), pages)[1]
            for other, fires in ((jobs, 2), (longer, 1), (jobs[1:], 1), (jobs[:-1], 1)):
                self.assertLessEqual(lateness(other, fires), later)
                self.assertLessEqual(sum(job[2] for job in other) - most_laid(other, fires), lack)
                self.assertLessEqual(fewest_fires(other), fewest_fires(jobs))
            self.assertEqual(kitchen(jobs[::-1])[0], kitchen(jobs)[0])


class TestHandedInAgain(unittest.TestCase):
    def test_what_is_told(self):
        """[35], [49]"""
        for pages in BOOKS[:40]:
            self.assertEqual(read_pages(shown_pages(pages)), pages)
            self.assertEqual(lets_turns(HOUSE, pages, firings(HOUSE, pages)), sum(
                len(row[4]) for row in firings(HOUSE, pages)))
            for seats in PARTIES:
                for dish, begin, end in run(HOUSE, pages, seats):
                    self.assertEqual(sum(pence for seat, pence in shares_of(HOUSE, pages, dish)), end - begin)
            for seat, pence in to_pay(HOUSE, pages):
                rows = account(HOUSE, pages, seat)
                self.assertEqual(lets_account(HOUSE, pages, seat, rows), pence)
                self.assertEqual(Bill(seat, rows), bill_of(HOUSE, pages, seat))
                self.assertEqual(owes(HOUSE, pages, seat), Bill(seat, rows).total())

    def test_by_a_desk(self):
        for pages in BOOKS[:10]:
            desk, diary = Desk(), Diary(HOUSE)
            desk.say("open " + shown_house(HOUSE))
            diary.bring(pages)
            for page in pages[::-1]:
                self.assertEqual(desk.say("tell " + shown_page(page)), "yes")
            self.assertEqual(desk.say("book").replace(" | ", "\n"), str(diary))
            # What it tells is brought to another.
            other = Desk()
            other.say("open " + desk.say("house"))
            other.say("bring " + desk.say("book"))
            for row in ("book", "house", "pay", "idle"):
                self.assertEqual(other.say(row), desk.say(row))


class TestNothingElse(unittest.TestCase):
    def test_nothing_is_changed_and_nothing_hangs_on_what_was_asked(self):
        """[2]"""
        house, books = copy.deepcopy(HOUSE), copy.deepcopy(BOOKS[:12])
        first = [everything(house, pages) for pages in books]
        self.assertEqual([everything(house, pages) for pages in reversed(books)][::-1], first)
        self.assertEqual((house, books), (HOUSE, BOOKS[:12]))

    def test_an_empty_book(self):
        told = everything(HOUSE, ())
        for part in told:
            if part not in ("sums", "jobs", "row", "may", "barred", "runs"):
                self.assertFalse(told[part], part)
        self.assertEqual((told["sums"], told["jobs"], told["row"]), ((0, 0, 0), ((), ()), ("row", ())))
        self.assertEqual(set(told["barred"] + told["runs"]), {()})
        self.assertEqual(set(told["may"]), {False})


if __name__ == "__main__":
    unittest.main()
