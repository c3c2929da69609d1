"""[45], [46]: bills."""

import copy
import unittest

from tablebills.accounts import account
from tablebills.bills import Bill, bill_of, bills_of
from tablebills.diaries import Diary
from tablebills.errors import NoSeat
from tablebills.paying import owes, to_pay
from tablebills.walking import sitting
from tests.chances import BOOKS
from tests.samples import ANY_THINGS, deep
from tests.walks import HOUSE, SEATS, TABLES, book

ROWS = (((5, 0), "dish", 300), ((7, 2), "paid", -50))
PAGES = book("sit dan two | sit bob one | sit ann one | ask 0 bun 0 ann bob | ask 1 ham 0 dan | sit cy one | go cy"
             " | take ann dan 2 | sit eve one | go eve | move bob two")


class TestBill(unittest.TestCase):
    def test_with_rows(self):
        bill = Bill("ann", ROWS)
        self.assertEqual(bill.called(), "ann")
        self.assertEqual(bill.rows(), ROWS)
        self.assertEqual(bill.total(), 250)
        self.assertEqual(len(bill), 2)
        self.assertIs(bool(bill), True)
        self.assertEqual(str(bill), "ann: 250 in 2")

    def test_without_rows(self):
        for bill in (Bill("bo"), Bill("bo", None), Bill("bo", ()), Bill("bo", rows=None), Bill(rows=(), seat="bo"),
                     Bill(seat="bo")):
            self.assertEqual(bill.called(), "bo")
            self.assertEqual(bill.rows(), ())
            self.assertEqual(bill.total(), 0)
            self.assertEqual(len(bill), 0)
            self.assertIs(bool(bill), False)
            self.assertEqual(str(bill), "bo: 0")

    def test_by_names(self):
        bill = Bill(rows=ROWS, seat="ann")
        self.assertEqual((bill.called(), bill.rows()), ("ann", ROWS))

    def test_below_nought(self):
        bill = Bill("cy", ROWS[1:])
        self.assertEqual(bill.total(), -50)
        self.assertEqual(str(bill), "cy: -50 in 1")

    def test_rows_that_come_to_nought(self):
        bill = Bill("cy", (((0, 0), "a", 5), ((0, 1), "b", -5), ((0, 1), "c", 0)))
        self.assertEqual((bill.total(), len(bill), bool(bill)), (0, 3, True))
        self.assertEqual(str(bill), "cy: 0 in 3")
        self.assertEqual(str(Bill("cy", (((0, 0), "a", 0),))), "cy: 0 in 1")

    def test_any_rows(self):
        # In any order, one twice, of any WORDS, of any size.
        rows = (((9, 9), "z", 10 ** 199), ((0, 0), "abcdefgh", -1), ((9, 9), "z", 10 ** 199))
        bill = Bill("abcdefgh", rows)
        self.assertEqual(bill.rows(), rows)
        self.assertEqual(bill.total(), 2 * 10 ** 199 - 1)
        self.assertEqual(str(bill), f"abcdefgh: {2 * 10 ** 199 - 1} in 3")
        self.assertEqual(len(Bill("a", ROWS * 500)), 1000)

    def test_alike(self):
        self.assertTrue(Bill("ann", ROWS) == Bill("ann", copy.deepcopy(ROWS)))
        self.assertFalse(Bill("ann", ROWS) != Bill("ann", ROWS))
        self.assertTrue(Bill("ann") == Bill("ann", ()))
        bill = Bill("ann", ROWS)
        self.assertTrue(bill == bill)

    def test_unlike(self):
        bill = Bill("ann", ROWS)
        for other in (Bill("bob", ROWS), Bill("ann"), Bill("ann", ROWS[:1]), Bill("ann", ROWS[1:]),
                      Bill("ann", ROWS[::-1]), Bill("ann", ROWS + ROWS), Bill("ann", (((5, 0), "dish", 250),)),
                      Bill("ann", (ROWS[0], ((7, 2), "paid", -51))), Bill("ann", (ROWS[0], ((7, 3), "paid", -50))),
                      Bill("ann", (ROWS[0], ((7, 2), "gave", -50)))):
            self.assertFalse(bill == other)
            self.assertFalse(other == bill)
            self.assertTrue(bill != other)

    def test_things_of_other_kinds(self):
        for bill in (Bill("ann", ROWS), Bill("ann")):
            for other in ANY_THINGS + ("ann", ROWS, ("ann", ROWS), ["ann", ROWS], (), "ann: 250 in 2", "ann: 0", 250, [bill],
                                       (bill,), Diary(HOUSE), deep(20)):
                self.assertIs(bill == other, False)
                self.assertIs(other == bill, False)
                self.assertIs(bill != other, True)

    def test_what_is_told_is_the_askers_own(self):
        bill = Bill("ann", ROWS)
        rows = list(bill.rows())
        rows.append(rows.pop(0))
        self.assertEqual(bill.rows(), ROWS)
        self.assertEqual(ROWS, (((5, 0), "dish", 300), ((7, 2), "paid", -50)))
        self.assertIs(type(bill.rows()), tuple)


class TestBillOf(unittest.TestCase):
    def test_by_hand(self):
        bill = bill_of(HOUSE, PAGES, "ann")
        self.assertEqual(bill, Bill("ann", (((3, 0), "dish", 5), ((7, 0), "took", 2))))
        self.assertEqual(str(bill), "ann: 7 in 2")
        self.assertEqual(str(bill_of(HOUSE, PAGES, "bob")), "bob: 5 in 1")
        self.assertEqual(str(bill_of(HOUSE, PAGES, "cy")), "cy: 0")
        self.assertEqual(str(bill_of(HOUSE, PAGES, "dan")), "dan: 5 in 2")
        self.assertEqual(bill_of(seat="cy", book=PAGES, house=HOUSE), Bill("cy"))

    def test_below_nought(self):
        pages = book("sit ann one | ask 0 bun 0 ann | pay ann 4 | strike 0")
        self.assertEqual(str(bill_of(HOUSE, pages, "ann")), "ann: -4 in 1")

    def test_of_its_account(self):
        """[49]"""
        for pages in BOOKS[:60]:
            for seat, pence in to_pay(HOUSE, pages):
                bill = bill_of(HOUSE, pages, seat)
                self.assertEqual((bill.called(), bill.rows(), bill.total()), (seat, account(HOUSE, pages, seat), pence))
                self.assertEqual(bill.total(), owes(HOUSE, pages, seat))
                self.assertEqual(bill, Bill(seat, account(HOUSE, pages, seat)))

    def test_no_seat(self):
        pages = book("sit bob one | sit cy one | go cy | ask 0 bun 0 bob | pay ann 1")
        for thing in ANY_THINGS + ("one", "Bob", "bob ", ["bob"], ("bob",), "", "bun", Bill("bob")):
            with self.assertRaises(NoSeat) as caught:
                bill_of(HOUSE, pages, thing)
            self.assertIs(caught.exception.seat, thing)
        self.assertRaises(NoSeat, bill_of, HOUSE, (), "bob")


class TestBillsOf(unittest.TestCase):
    def seats(self, *told, **named):
        return [bill.called() for bill in bills_of(*told, **named)]

    def test_of_each_table(self):
        self.assertEqual(self.seats(HOUSE, PAGES, "one"), ["ann"])
        self.assertEqual(self.seats(HOUSE, PAGES, "two"), ["bob", "dan"])
        self.assertEqual(self.seats(HOUSE, PAGES[:-1], "one"), ["ann", "bob"])
        self.assertEqual(bills_of(HOUSE, PAGES, "two"), [bill_of(HOUSE, PAGES, "bob"), bill_of(HOUSE, PAGES, "dan")])

    def test_of_those_that_are_gone(self):
        self.assertEqual(self.seats(HOUSE, PAGES, ""), ["cy", "eve"])
        self.assertEqual(self.seats(HOUSE, PAGES), ["cy", "eve"])
        self.assertEqual(bills_of(HOUSE, PAGES), [Bill("cy"), Bill("eve")])
        self.assertEqual(self.seats(HOUSE, PAGES + book("sit cy one", 50)), ["eve"])

    def test_of_none(self):
        for table in ("three", "ann", "z"):
            self.assertEqual(bills_of(HOUSE, PAGES, table), [])
        self.assertEqual(bills_of(HOUSE, PAGES[:2], ""), [])
        self.assertEqual(bills_of(HOUSE, ()), [])
        self.assertEqual(bills_of(HOUSE, (), "one"), [])

    def test_by_names(self):
        self.assertEqual(self.seats(table="two", book=PAGES, house=HOUSE), ["bob", "dan"])
        self.assertEqual(self.seats(book=PAGES, house=HOUSE), ["cy", "eve"])

    def test_a_list_of_the_askers_own(self):
        told = bills_of(HOUSE, PAGES, "two")
        self.assertIs(type(told), list)
        told.clear()
        self.assertEqual(self.seats(HOUSE, PAGES, "two"), ["bob", "dan"])
        told = bills_of(HOUSE, PAGES)
        told.append(Bill("zoe"))
        self.assertEqual(self.seats(HOUSE, PAGES), ["cy", "eve"])

    def test_each_known_seat_in_one(self):
        for pages in BOOKS[:60]:
            where = dict(sitting(HOUSE, pages))
            for table in TABLES + ("",):
                self.assertEqual(self.seats(HOUSE, pages, table), [seat for seat in SEATS if where.get(seat) == table])
                for bill in bills_of(HOUSE, pages, table):
                    self.assertEqual(bill, bill_of(HOUSE, pages, bill.called()))


if __name__ == "__main__":
    unittest.main()
