"""[47], and the last sentence of [7]'s second part: what would be without a DISH."""

import copy
import unittest

from tablebills.errors import NoDish
from tablebills.paying import owes, to_pay
from tablebills.runs import shares_of
from tablebills.walking import dishes, idle
from tablebills.without import backed
from tests.chances import BOOKS
from tests.samples import ANY_THINGS, deep
from tests.walks import HOUSE, book

TWO = "sit ann one | sit bob one"
SHARED = TWO + " | ask 0 ham 0 ann bob"
NEXT = (10 ** 5, 0)


class Checks(unittest.TestCase):
    def told(self, wanted, text, dish=0):
        self.assertEqual(backed(HOUSE, book(text), dish), wanted, (text, dish))

    def lost(self, thing, pages):
        with self.assertRaises(NoDish) as caught:
            backed(HOUSE, pages, thing)
        self.assertIs(caught.exception.dish, thing)


class TestBacked(Checks):
    def test_each_state_that_lives(self):
        for more in ("", " | fire one 0", " | fire one 0 | serve 0"):
            self.told((("ann", 4, 0), ("bob", 3, 0)), SHARED + more)

    def test_one_that_lives_no_more(self):
        for more in (" | strike 0", " | fire one 0 | strike 0", " | fire one 0 | serve 0 | back 0"):
            self.lost(0, book(SHARED + more))

    def test_beside_other_dishes(self):
        text = SHARED + " | ask 1 ham 0 ann bob | ask 2 bun 0 ann"
        # What stands behind it in its RUN stays as it was.
        self.told((("ann", 17, 13), ("bob", 7, 4)), text, 0)
        self.told((("ann", 17, 14), ("bob", 7, 3)), text, 1)
        self.told((("ann", 17, 7),), text, 2)

    def test_below_nought(self):
        self.told((("ann", 0, -4), ("bob", 3, 0)), SHARED + " | pay ann 4")
        self.told((("ann", 7, 3), ("bob", 0, -3)), SHARED + " | take ann bob 3")
        self.told((("ann", -10, -20),), "sit ann one | ask 1 bun 0 ann | ask 0 bun 0 ann | fire one 0 | serve 1 | pay ann"
                  " 20 | back 1")

    def test_who_went(self):
        self.told((("ann", 4, 0), ("bob", 0, -3)), SHARED + " | pay bob 3 | go bob")

    def test_a_cost_and_a_share_of_nought(self):
        self.told((("ann", 10, 10),), "sit ann one | ask 0 water 0 ann | ask 1 bun 0 ann")
        seats = tuple("abcdefghijkl")
        text = " | ".join(f"sit {seat} one" for seat in seats) + " | ask 0 ham 0 " + " ".join(seats)
        self.told(tuple((seat, int(at < 7), 0) for at, seat in enumerate(seats)), text)

    def test_changed(self):
        self.told((("ann", 5, 0), ("bob", 5, 0)), SHARED + " | change 0 bun")

    def test_by_names(self):
        self.assertEqual(backed(dish=0, book=book(SHARED), house=HOUSE), (("ann", 4, 0), ("bob", 3, 0)))


class TestNoDish(Checks):
    def test_things_of_any_kind(self):
        pages = book(TWO + " | ask 0 bun 0 ann | ask 1 bun 0 ann | ask 2 tart 0 ann")
        for thing in ANY_THINGS + ("0", "1", 2, 3, -2, (0,), [0], [1], (1,), deep(20, 0), (0, 1), "bun", "ann"):
            if thing in (0, 1) and not isinstance(thing, bool):
                continue
            self.lost(thing, pages)
        # True is no 1.
        self.assertEqual(backed(HOUSE, pages, 1), (("ann", 20, 10),))

    def test_an_empty_book(self):
        for thing in (0, True, None, [], "a"):
            self.lost(thing, ())


class TestSo(Checks):
    def test_against_a_book_with_such_a_page_more(self):
        words = {"asked": "strike", "fired": "strike", "served": "back"}
        seen = set()
        for pages in BOOKS:
            for dish, state, item, course, seats, cost in dishes(HOUSE, pages):
                if state not in words:
                    self.lost(dish, pages)
                    continue
                seen.add(state)
                more = pages + ((NEXT, (words[state], dish)),)
                self.assertEqual(idle(HOUSE, more), idle(HOUSE, pages))
                now, then = dict(to_pay(HOUSE, pages)), dict(to_pay(HOUSE, more))
                self.assertEqual(backed(HOUSE, pages, dish), tuple((seat, now[seat], then[seat]) for seat in seats))
                # Each by its SHARE less, and nobody else.
                shares = dict(shares_of(HOUSE, pages, dish))
                self.assertEqual({seat: now[seat] - then[seat] for seat in now},
                                 {seat: shares.get(seat, 0) for seat in now})
        self.assertEqual(seen, set(words))

    def test_what_is_told_may_be_handed_in(self):
        """[49]"""
        for pages in BOOKS[:20]:
            for row in dishes(HOUSE, pages, "served"):
                for seat, now, then in backed(HOUSE, pages, row[0]):
                    self.assertEqual(owes(HOUSE, pages, seat), now)

    def test_nothing_is_changed_and_nothing_hangs_on_what_was_asked(self):
        """[2]"""
        house, books = copy.deepcopy(HOUSE), copy.deepcopy(BOOKS[:20])

        def told(pages):
            return [backed(house, pages, row[0]) for row in dishes(house, pages, "asked")], to_pay(house, pages)

        first = [told(pages) for pages in books]
        self.assertEqual([told(pages) for pages in reversed(books)][::-1], first)
        self.assertEqual((house, books), (HOUSE, BOOKS[:20]))


if __name__ == "__main__":
    unittest.main()
