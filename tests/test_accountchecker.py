"""[44]: the checker of ACCOUNTS."""

import copy
import unittest

from tablebills.accountchecker import lets_account
from tablebills.accounts import account
from tablebills.errors import NoPaper, NoSeat
from tablebills.paying import owes, to_pay
from tests.chances import BOOKS, EACH
from tests.samples import ANY_THINGS, deep, swapped
from tests.walks import HOUSE, book

# A NUMBER 1 and a 0 in each place where a truth may be put.
PAGES = (((0, 0), ("sit", "ann", "one")), ((0, 5), ("sit", "bob", "one")), ((1, 0), ("ask", 0, "water", 0, ("ann",))),
         ((1, 1), ("ask", 1, "ham", 0, ("ann", "bob"))), ((2, 0), ("take", "ann", "bob", 1)), ((3, 0), ("pay", "ann", 2)),
         ((4, 0), ("even", ("ann", "bob"))))
# ann had 3 TO PAY and bob 2 ahead of the "even", which turned nothing of ann's, and nothing of bob's.
ACCOUNT = (((1, 0), "dish", 0), ((1, 1), "dish", 4), ((2, 0), "took", 1), ((3, 0), "paid", -2))


class Checks(unittest.TestCase):
    def refused(self, word, at, thing, seat="ann", pages=PAGES):
        with self.assertRaises(NoPaper) as caught:
            lets_account(HOUSE, pages, seat, thing)
        self.assertEqual((caught.exception.word, caught.exception.at), (word, at), thing)

    def other(self, row, place, part):
        """The ACCOUNT with another part in this place of this row."""
        return swapped(ACCOUNT, row, swapped(ACCOUNT[row], place, part))


class TestLetBy(Checks):
    def test_by_hand(self):
        self.assertEqual(account(HOUSE, PAGES, "ann"), ACCOUNT)
        self.assertEqual(lets_account(HOUSE, PAGES, "ann", ACCOUNT), 3)
        self.assertEqual(lets_account(HOUSE, PAGES, "bob", (((1, 1), "dish", 3), ((2, 0), "gave", -1))), 2)
        self.assertEqual(lets_account(HOUSE, PAGES[:1], "ann", ()), 0)

    def test_below_nought(self):
        pages = book("sit ann one | ask 0 bun 0 ann | pay ann 4 | strike 0")
        self.assertEqual(lets_account(HOUSE, pages, "ann", (((2, 0), "paid", -4),)), -4)

    def test_by_names(self):
        self.assertEqual(lets_account(thing=ACCOUNT, seat="ann", book=PAGES, house=HOUSE), 3)
        with self.assertRaises(NoPaper):
            lets_account(thing=(), seat="ann", book=PAGES, house=HOUSE)

    def test_what_account_tells(self):
        """[49]"""
        for pages, words in EACH:
            for seat, pence in to_pay(HOUSE, pages):
                self.assertEqual(lets_account(HOUSE, pages, seat, account(HOUSE, pages, seat)), pence)
                self.assertEqual(lets_account(HOUSE, pages, seat, words.account(seat)), pence)


class TestNoSeat(Checks):
    def lost(self, thing, paper, pages=PAGES):
        with self.assertRaises(NoSeat) as caught:
            lets_account(HOUSE, pages, thing, paper)
        self.assertIs(caught.exception.seat, thing)

    def test_ahead_of_all_else(self):
        for paper in (ACCOUNT, (), None, [], "", True, (None,), (ACCOUNT[0], None), ACCOUNT[::-1], ACCOUNT + ACCOUNT):
            self.lost("cy", paper)
            self.lost("ann", paper, ())

    def test_things_of_any_kind(self):
        pages = book("sit bob one | sit cy one | go cy | ask 0 bun 0 bob")
        for thing in ANY_THINGS + ("one", "Bob", "bob ", ["bob"], ("bob",), ("bob", "cy"), "", "bun", deep(20, "bob")):
            self.lost(thing, (((3, 0), "dish", 10),), pages)
            self.lost(thing, None, pages)
        self.assertEqual(lets_account(HOUSE, pages, "bob", (((3, 0), "dish", 10),)), 10)


class TestRefused(Checks):
    def test_shape(self):
        for thing in (None, True, 0, 3, "", "abc", [], list(ACCOUNT), [()]):
            self.refused("shape", -1, thing)
            self.refused("shape", -1, thing, pages=PAGES[:1])

    def test_row(self):
        for row in (None, True, 3, "", "abc", (), [], list(ACCOUNT[0]), ACCOUNT[0][:2], ACCOUNT[0] + (0,), (ACCOUNT[0],),
                    deep(20)):
            for at in range(4):
                self.refused("row", at, swapped(ACCOUNT, at, row))
            self.refused("row", 4, ACCOUNT + (row,))

    def test_more(self):
        self.refused("more", 4, ACCOUNT + (ACCOUNT[3],))
        self.refused("more", 4, ACCOUNT + ((None, None, None),))
        self.refused("more", 4, ACCOUNT + (((4, 0), "even", 0),))
        self.refused("more", 0, ACCOUNT, pages=PAGES[:1])
        self.refused("more", 0, (("", [], ()),), pages=PAGES[:1])

    def test_name(self):
        for name in (None, True, 1, "1.0", "", (), (1,), (1, 0, 0), [1, 0], (1, 1), (0, 0), (True, 0), (1, False),
                     (True, False), ("1", 0), ((1, 0),), deep(20)):
            self.refused("name", 0, self.other(0, 0, name))
        for name in ((1, True), (True, 1), (True, True), [1, 1], (1, 0)):
            self.refused("name", 1, self.other(1, 0, name))

    def test_word(self):
        for word in (None, True, 0, "", "Dish", "dish ", "took", "gave", "paid", "even", (), ("dish",), ["dish"]):
            self.refused("word", 0, self.other(0, 1, word))
        for at in range(2, 4):
            self.refused("word", at, self.other(at, 1, "dish"))

    def test_pence(self):
        for pence in (None, False, True, 1, -1, "0", "", (), (0,), [0], [], 10 ** 199):
            self.refused("pence", 0, self.other(0, 2, pence))
        # False is no 0, True is no 1.
        for pence in (True, -1, 0, 2):
            self.refused("pence", 2, self.other(2, 2, pence))
        self.refused("pence", 3, self.other(3, 2, 2))
        self.refused("pence", 1, self.other(1, 2, 3))

    def test_few(self):
        for many in range(4):
            self.refused("few", -1, ACCOUNT[:many])

    def test_the_other_way_about(self):
        self.refused("name", 0, ACCOUNT[::-1])
        self.refused("name", 0, ACCOUNT[1:])
        self.refused("name", 1, ACCOUNT[:1] + ACCOUNT)

    def test_anothers_account(self):
        self.refused("name", 0, ACCOUNT, "bob")
        self.refused("name", 0, account(HOUSE, PAGES, "bob"))


class TestTheFirstGoes(Checks):
    def test_of_one_row(self):
        self.refused("name", 0, swapped(ACCOUNT, 0, (None, None, None)))
        self.refused("word", 0, swapped(ACCOUNT, 0, ((1, 0), None, None)))
        self.refused("name", 0, swapped(ACCOUNT, 0, ((True, 0), "dish", False)))
        self.refused("name", 0, swapped(ACCOUNT, 0, ((1, 1), "took", 0)))
        self.refused("row", 4, ACCOUNT + ((),))

    def test_row_by_row(self):
        """A later fault of an earlier row goes ahead of an earlier fault of a later row."""
        for fault in (None, (None, None, None), ((1, 1), "took", 4)):
            self.refused("pence", 0, swapped(self.other(0, 2, 9), 1, fault))
            self.refused("word", 0, swapped(self.other(0, 1, "even"), 1, fault))
            self.refused("name", 0, swapped(self.other(0, 0, (9, 9)), 1, fault))

    def test_rows_ahead_of_few(self):
        self.refused("pence", 0, self.other(0, 2, 9)[:1])
        self.refused("row", 1, (ACCOUNT[0], None))
        self.refused("more", 4, ACCOUNT + ((0, 0, 0), None))


class TestAnyThing(Checks):
    def test_in_each_place(self):
        for thing in ANY_THINGS:
            if not isinstance(thing, tuple):
                self.refused("shape", -1, thing)
            self.refused("name" if isinstance(thing, tuple) and len(thing) == 3 else "row", 1, swapped(ACCOUNT, 1, thing))
            for place, word in enumerate(("name", "word", "pence")):
                if place != 2 or thing != 4:
                    self.refused(word, 1, self.other(1, place, thing))

    def test_nothing_is_changed_and_nothing_hangs_on_what_was_asked(self):
        """[2]"""
        house, pages, things = copy.deepcopy(HOUSE), copy.deepcopy(PAGES), copy.deepcopy(ANY_THINGS)
        for thing in things:
            self.assertRaises(NoPaper, lets_account, house, pages, "ann", (thing,))
            self.assertRaises(NoPaper, lets_account, house, pages, "ann", self.other(3, 0, thing))
        self.assertEqual(lets_account(house, pages, "ann", ACCOUNT), 3)
        self.assertEqual((house, pages, things), (HOUSE, PAGES, ANY_THINGS))

    def test_any_other_is_refused(self):
        """What is let by is the ACCOUNT, whoever wrote it."""
        for pages in BOOKS[:30]:
            for seat, pence in to_pay(HOUSE, pages):
                rows = account(HOUSE, pages, seat)
                self.assertEqual(owes(HOUSE, pages, seat), pence)
                for at, row in enumerate(rows):
                    for other in (rows[:at] + rows[at + 1:], rows[:at + 1] + rows[at:],
                                  swapped(rows, at, swapped(row, 2, row[2] + 1)),
                                  swapped(rows, at, swapped(row, 1, "other"))):
                        self.assertRaises(NoPaper, lets_account, HOUSE, pages, seat, other)


if __name__ == "__main__":
    unittest.main()
