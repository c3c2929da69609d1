"""[43]: the ACCOUNT of a SEAT."""

import copy
import unittest

from tablebills.accounts import account
from tablebills.books import until
from tablebills.errors import NoSeat
from tablebills.paying import owes, to_pay
from tablebills.walking import idle
from tests.chances import BOOKS, EACH
from tests.samples import ANY_THINGS, deep
from tests.walks import HOUSE, book

TWO = "sit ann one | sit bob one"


class Checks(unittest.TestCase):
    def told(self, wanted, text, seat="ann"):
        """The rows by the minutes of their PAGES."""
        self.assertEqual(account(HOUSE, book(text), seat),
                         tuple(((minute, 0), word, pence) for minute, word, pence in wanted), (text, seat))


class TestWords(Checks):
    def test_nothing(self):
        self.told((), "sit ann one")
        self.told((), "sit ann one | go ann")
        self.told((), TWO + " | ask 0 bun 0 bob")

    def test_dish(self):
        self.told(((2, "dish", 10),), TWO + " | ask 0 bun 0 ann")
        text = TWO + " | ask 0 ham 0 ann bob | ask 1 ham 0 ann bob | ask 2 bun 0 bob"
        self.told(((2, "dish", 4), (3, "dish", 3)), text)
        self.told(((2, "dish", 3), (3, "dish", 4), (4, "dish", 10)), text, "bob")

    def test_a_dish_in_each_state(self):
        asked = TWO + " | ask 0 bun 0 ann"
        for more in ("", " | fire one 0", " | fire one 0 | serve 0"):
            self.told(((2, "dish", 10),), asked + more)
        for more in (" | strike 0", " | fire one 0 | strike 0", " | fire one 0 | serve 0 | back 0"):
            self.told((), asked + more)

    def test_behind_a_dish_that_lives_no_more(self):
        self.told(((3, "dish", 3),), TWO + " | ask 0 ham 0 ann bob | ask 1 ham 0 ann bob | strike 0")

    def test_a_changed_dish_has_the_name_of_its_ask(self):
        text = TWO + " | ask 0 bun 0 ann | change 0 ham | ask 1 bun 0 ann | change 1 ham | change 1 water"
        self.told(((2, "dish", 7), (4, "dish", 0)), text)

    def test_a_share_of_nought(self):
        self.told(((2, "dish", 0),), TWO + " | ask 0 water 0 ann")
        seats = tuple("abcdefghijkl")
        text = " | ".join(f"sit {seat} one" for seat in seats) + " | ask 0 ham 0 " + " ".join(seats)
        self.told(((12, "dish", 1),), text, "g")
        self.told(((12, "dish", 0),), text, "h")

    def test_took_and_gave(self):
        text = TWO + " | ask 0 bun 0 bob | take ann bob 4 | take bob ann 1"
        self.told(((3, "took", 4), (4, "gave", -1)), text)
        self.told(((2, "dish", 10), (3, "gave", -4), (4, "took", 1)), text, "bob")

    def test_paid(self):
        self.told(((2, "dish", 10), (3, "paid", -4), (4, "paid", -6)), TWO + " | ask 0 bun 0 ann | pay ann 4 | pay ann 6")
        # What was paid stays, though the DISH goes.
        self.told(((3, "paid", -4),), TWO + " | ask 0 bun 0 ann | pay ann 4 | strike 0")

    def test_even(self):
        text = TWO + " | ask 0 ham 0 bob | even ann bob"
        self.told(((3, "even", 4),), text)
        self.told(((2, "dish", 7), (3, "even", -4)), text, "bob")
        # The next is begun a hand further: a penny turns.
        self.told(((3, "even", 4), (4, "even", -1)), text + " | even ann bob")
        self.told(((2, "dish", 7), (3, "even", -4), (4, "even", 1)), text + " | even ann bob", "bob")

    def test_an_even_that_turned_nothing(self):
        self.told((), TWO + " | even ann bob")
        text = TWO + " | ask 0 bun 0 bob | even ann bob | even ann bob"
        self.told(((3, "even", 5),), text)
        self.told(((2, "dish", 10), (3, "even", -5)), text, "bob")
        # Of three it may turn two alone.
        text = "sit ann one | sit bob one | sit cy one | ask 0 bun 0 ann | ask 1 bun 0 bob | ask 2 soup 0 cy"
        text += " | pay cy 440 | take ann bob 1 | even ann bob cy"
        self.told(((3, "dish", 10), (7, "took", 1), (8, "even", -1)), text)
        self.told(((4, "dish", 10), (7, "gave", -1), (8, "even", 1)), text, "bob")
        self.told(((5, "dish", 450), (6, "paid", -440)), text, "cy")

    def test_an_even_that_was_turned_by_what_came_behind(self):
        # What it added stays as it was, though the DISH goes.
        self.told(((3, "even", 5),), TWO + " | ask 0 bun 0 bob | even ann bob | strike 0")

    def test_idle_pages_have_no_row(self):
        text = TWO + " | ask 0 bun 0 ann | pay ann 11 | take bob ann 11 | even ann cy | ask 0 ham 0 ann | ask 1 tart 0 ann"
        self.assertEqual(len(idle(HOUSE, book(text))), 5)
        self.told(((2, "dish", 10),), text)

    def test_names_rise(self):
        pages = (((5, 1), ("sit", "ann", "one")), ((5, 2), ("sit", "bob", "one")), ((5, 9), ("ask", 4, "bun", 0, ("ann",))),
                 ((5, 10), ("take", "bob", "ann", 3)), ((6, 0), ("ask", 1, "ham", 0, ("ann",))), ((6, 2), ("pay", "ann", 1)))
        self.assertEqual(account(HOUSE, pages, "ann"), (((5, 9), "dish", 10), ((5, 10), "gave", -3), ((6, 0), "dish", 7),
                                                        ((6, 2), "paid", -1)))

    def test_who_went(self):
        text = TWO + " | ask 0 bun 0 ann bob | pay ann 5 | go ann"
        self.told(((2, "dish", 5), (3, "paid", -5)), text)
        self.told(((3, "paid", -5),), text + " | strike 0")

    def test_by_names(self):
        self.assertEqual(account(seat="ann", book=book(TWO + " | ask 0 bun 0 ann"), house=HOUSE),
                         (((2, 0), "dish", 10),))


class TestNoSeat(unittest.TestCase):
    PAGES = book("sit bob one | sit cy one | go cy | sit zz abcdefgh | ask 0 bun 0 bob | pay ann 5")

    def test_things_of_any_kind(self):
        for pages in (self.PAGES, ()):
            for thing in ANY_THINGS + ("one", "bun", "Bob", "bob ", "bo", ["bob"], ("bob",), ("bob", "cy"), "", "go",
                                       deep(20, "bob")):
                with self.assertRaises(NoSeat) as caught:
                    account(HOUSE, pages, thing)
                self.assertIs(caught.exception.seat, thing)
        self.assertEqual(account(HOUSE, self.PAGES, "cy"), ())


class TestSo(unittest.TestCase):
    def test_against_the_words(self):
        seen = set()
        for pages, words in EACH:
            for seat in words.seated():
                rows = account(HOUSE, pages, seat)
                self.assertEqual(rows, words.account(seat))
                seen |= {(word, (pence > 0) - (pence < 0)) for name, word, pence in rows}
        self.assertEqual(seen, {("dish", 1), ("dish", 0), ("took", 1), ("gave", -1), ("paid", -1), ("even", 1),
                                ("even", -1)})

    def test_its_pence_are_what_the_seat_owes(self):
        for pages in BOOKS[:60]:
            for many in range(0, len(pages) + 1, 5):
                for seat, pence in to_pay(HOUSE, pages[:many]):
                    rows = account(HOUSE, pages[:many], seat)
                    self.assertEqual(sum(row[2] for row in rows), pence)
                    self.assertEqual([row[0] for row in rows], sorted({row[0] for row in rows}))

    def test_idle_pages_may_be_left_out(self):
        """[34]"""
        for pages in BOOKS[:40]:
            names = dict(idle(HOUSE, pages))
            fewer = tuple(page for page in pages if page[0] not in names)
            for seat, pence in to_pay(HOUSE, pages):
                self.assertEqual(account(HOUSE, fewer, seat), account(HOUSE, pages, seat))

    def test_up_to_a_minute(self):
        """[34]"""
        for pages in BOOKS[:20]:
            for minute in {page[0][0] for page in pages}:
                for seat, pence in to_pay(HOUSE, pages, minute):
                    rows = account(HOUSE, until(pages, minute), seat)
                    self.assertEqual(sum(row[2] for row in rows), owes(HOUSE, pages, seat, minute))

    def test_nothing_is_changed_and_nothing_hangs_on_what_was_asked(self):
        """[2]"""
        house, books = copy.deepcopy(HOUSE), copy.deepcopy(BOOKS[:20])
        first = [account(house, pages, seat) for pages in books for seat in ("ann", "bob", "cy")]
        second = [account(house, pages, seat) for pages in reversed(books) for seat in ("cy", "bob", "ann")]
        self.assertEqual(second[::-1], first)
        self.assertEqual((house, books), (HOUSE, BOOKS[:20]))


if __name__ == "__main__":
    unittest.main()
