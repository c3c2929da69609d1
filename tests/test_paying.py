"""[41], [42], [48], with [5], [33], [34] and [7]'s second part: what is TO PAY."""

import copy
import random
import unittest

from tablebills.books import book_of, until
from tablebills.errors import NoSeat
from tablebills.paying import owes, sums, to_pay
from tablebills.walking import dishes, idle, sitting
from tests.chances import BOOKS, EACH
from tests.samples import ANY_THINGS, deep
from tests.walks import HOUSE, SEATS, TABLES, book, words_of

TWO = "sit ann one | sit bob one"
THREE = TWO + " | sit cy one"
# ann has paid a bun that goes back: she has 10 below 0 TO PAY.
BELOW = "ask 90 bun 0 ann | fire one 0 | serve 90 | pay ann 10 | back 90"


class Checks(unittest.TestCase):
    def owe(self, text, **pence):
        pages = book(text)
        self.assertEqual(to_pay(HOUSE, pages), tuple(sorted(pence.items())), text)
        for seat in pence:
            self.assertEqual(owes(HOUSE, pages, seat), pence[seat], (text, seat))

    def lost(self, thing, *told, **named):
        with self.assertRaises(NoSeat) as caught:
            owes(*told, **named)
        self.assertIs(caught.exception.seat, thing)


class TestToPay(Checks):
    def test_nobody(self):
        self.assertEqual(to_pay(HOUSE, ()), ())
        self.assertEqual(sums(HOUSE, ()), (0, 0, 0))
        self.lost("ann", HOUSE, (), "ann")

    def test_all_known_ones_rise(self):
        self.owe("sit dan two | sit bob one | sit ann one | sit cy two | ask 0 bun 0 bob", ann=0, bob=10, cy=0, dan=0)
        # Who went is KNOWN still; who sat by an IDLE "sit" alone isn't, and nor is who does other things.
        self.owe("sit ann one | go ann | go bob | move cy one", ann=0)

    def test_shares(self):
        self.owe(TWO + " | ask 0 bun 0 ann | ask 1 ham 0 ann bob", ann=14, bob=3)
        self.owe(THREE + " | ask 0 bun 0 ann bob cy | ask 1 bun 0 ann bob cy", ann=7, bob=7, cy=6)
        self.owe(TWO + " | ask 0 ham 0 ann bob | ask 1 ham 0 ann bob | strike 0", ann=3, bob=4)
        self.owe(TWO + " | ask 0 ham 0 ann bob | ask 1 ham 0 ann bob | change 0 bun", ann=9, bob=8)

    def test_each_state(self):
        asked = TWO + " | ask 0 bun 0 ann"
        for more in ("", " | fire one 0", " | fire one 0 | serve 0"):
            self.owe(asked + more, ann=10, bob=0)
        for more in (" | strike 0", " | fire one 0 | strike 0", " | fire one 0 | serve 0 | back 0"):
            self.owe(asked + more, ann=0, bob=0)

    def test_pay_take_and_even(self):
        asked = TWO + " | ask 0 ham 0 ann bob | ask 1 bun 0 bob"
        self.owe(asked, ann=4, bob=13)
        self.owe(asked + " | pay bob 5", ann=4, bob=8)
        self.owe(asked + " | take ann bob 6", ann=10, bob=7)
        self.owe(asked + " | take ann bob 6 | take bob ann 10", ann=0, bob=17)
        self.owe(asked + " | even ann bob", ann=9, bob=8)
        self.owe(asked + " | even ann bob | even ann bob", ann=8, bob=9)
        self.owe(asked + " | pay bob 13 | even ann bob", ann=2, bob=2)

    def test_below_nought(self):
        self.owe("sit ann one | " + BELOW, ann=-10)
        self.owe(TWO + " | " + BELOW + " | ask 0 ham 0 ann bob", ann=-6, bob=3)
        self.owe(TWO + " | ask 0 ham 0 ann bob | fire one 0 | pay bob 3 | strike 0", ann=0, bob=-3)
        self.owe(TWO + " | ask 0 bun 0 bob | take ann bob 10 | strike 0", ann=10, bob=-10)
        self.owe(TWO + " | ask 0 bun 0 bob | even ann bob | strike 0", ann=5, bob=-5)

    def test_who_went_and_has_something_since(self):
        text = TWO + " | ask 0 water 0 ann bob | go bob | change 0 bun"
        self.owe(text, ann=5, bob=5)
        paid = TWO + " | ask 0 bun 0 ann bob | pay bob 5 | go bob"
        self.owe(paid, ann=5, bob=0)
        self.owe(paid + " | strike 0", ann=0, bob=-5)
        self.owe(paid + " | change 0 ham", ann=4, bob=-2)
        self.owe(paid + " | strike 0 | sit bob two", ann=0, bob=-5)

    def test_idle_pages_turn_nothing(self):
        text = TWO + " | ask 0 bun 0 ann"
        for more in ("pay ann 11", "pay bob 1", "take bob ann 11", "even ann cy", "strike 1", "ask 1 bun 0 cy", "go ann",
                     "ask 0 ham 0 bob", "pay cy 1", "sit ann two"):
            self.owe(f"{text} | {more}", ann=10, bob=0)

    def test_by_names(self):
        pages = book(TWO + " | ask 0 bun 0 ann | pay ann 4")
        self.assertEqual(to_pay(minute=2, book=pages, house=HOUSE), (("ann", 10), ("bob", 0)))
        self.assertEqual(to_pay(book=pages, house=HOUSE), (("ann", 6), ("bob", 0)))
        self.assertEqual(owes(minute=2, seat="ann", book=pages, house=HOUSE), 10)
        self.assertEqual(owes(seat="ann", book=pages, house=HOUSE), 6)
        self.assertEqual(sums(book=pages, house=HOUSE), (10, 4, 6))
        self.lost("cy", minute=2, seat="cy", book=pages, house=HOUSE)

    def test_against_the_words(self):
        below = 0
        for pages, words in EACH:
            told = to_pay(HOUSE, pages)
            self.assertEqual(told, tuple((seat, words.to_pay(seat)) for seat in sorted(words.seated())))
            self.assertEqual(sums(HOUSE, pages), words.sums())
            for seat, pence in told:
                self.assertEqual(owes(HOUSE, pages, seat), pence)
                below += pence < 0
        self.assertGreater(below, 5)


class TestMinutes(Checks):
    PAGES = tuple(((minute, number), deed) for minute, number, deed in (
        (5, 0, ("sit", "bob", "one")), (5, 3, ("ask", 0, "bun", 0, ("bob",))), (8, 1, ("sit", "ann", "one")),
        (8, 2, ("even", ("ann", "bob"))), (8, 9, ("pay", "ann", 2)), (12, 0, ("strike", 0)), (12, 1, ("sit", "cy", "two"))))
    TOLD = {4: (), 5: (("bob", 10),), 7: (("bob", 10),), 8: (("ann", 3), ("bob", 5)), 11: (("ann", 3), ("bob", 5)),
            12: (("ann", 3), ("bob", -5), ("cy", 0))}

    def test_at_each_minute_and_one_ahead(self):
        for minute, told in self.TOLD.items():
            self.assertEqual(to_pay(HOUSE, self.PAGES, minute), told, minute)
            for seat, pence in told:
                self.assertEqual(owes(HOUSE, self.PAGES, seat, minute), pence)

    def test_far_behind_and_none(self):
        wanted = self.TOLD[12]
        for minute in (13, 10 ** 5, 10 ** 199, None):
            self.assertEqual(to_pay(HOUSE, self.PAGES, minute), wanted)
            self.assertEqual(owes(HOUSE, self.PAGES, "bob", minute), -5)
        self.assertEqual(to_pay(HOUSE, self.PAGES), wanted)
        self.assertEqual(owes(HOUSE, self.PAGES, "bob"), -5)

    def test_ahead_of_all_and_below_nought(self):
        for minute in (0, 4, -1, -5, -(10 ** 199)):
            self.assertEqual(to_pay(HOUSE, self.PAGES, minute), ())
            self.lost("bob", HOUSE, self.PAGES, "bob", minute)

    def test_at_minute_nought(self):
        # Minute 0 is a minute like others, no None.
        pages = book("sit ann one | ask 0 bun 0 ann")
        self.assertEqual(to_pay(HOUSE, pages, 0), (("ann", 0),))
        self.assertEqual(owes(HOUSE, pages, "ann", 0), 0)
        self.assertEqual(to_pay(HOUSE, pages, -1), ())

    def test_not_known_by_then(self):
        self.lost("ann", HOUSE, self.PAGES, "ann", 7)
        self.lost("cy", HOUSE, self.PAGES, "cy", 11)
        self.assertEqual(owes(HOUSE, self.PAGES, "cy", 12), 0)

    def test_whatever_comes_behind(self):
        """[34], and [7]: elder views are told as they were."""
        for pages in BOOKS[:30]:
            for minute in sorted({page[0][0] for page in pages}):
                for at in (minute - 1, minute):
                    self.assertEqual(to_pay(HOUSE, pages, at), to_pay(HOUSE, until(pages, at)))
                    words = words_of(HOUSE, until(pages, at))
                    self.assertEqual(to_pay(HOUSE, pages, at),
                                     tuple((seat, words.to_pay(seat)) for seat in sorted(words.seated())))


class TestNoSeat(Checks):
    PAGES = book("sit bob one | sit cy one | go cy | sit zz abcdefgh | ask 0 bun 0 bob")

    def test_things_of_any_kind(self):
        for thing in ANY_THINGS + ("one", "bun", "Bob", "bob ", " bob", "bobb", "bo", ["bob"], ("bob",), [["bob"]],
                                   ("bob", "cy"), deep(20, "bob"), "", "go", 10, "0"):
            self.lost(thing, HOUSE, self.PAGES, thing)
            self.lost(thing, HOUSE, self.PAGES, thing, 100)
            self.lost(thing, HOUSE, self.PAGES, thing, minute=None)
        for seat in ("bob", "cy", "zz"):
            self.assertEqual(owes(HOUSE, self.PAGES, seat), 10 if seat == "bob" else 0)

    def test_who_sat_by_an_idle_page_alone(self):
        # A SEAT that others speak of, and that never sat.
        pages = book("sit bob one | ask 0 bun 0 ann bob | take ann bob 1 | take bob ann 1 | even ann bob | pay ann 1"
                     " | move ann two | go ann")
        self.assertEqual(len(idle(HOUSE, pages)), 7)
        self.lost("ann", HOUSE, pages, "ann")
        self.assertEqual(to_pay(HOUSE, pages), (("bob", 0),))


class TestSums(Checks):
    TEXT = (THREE + " | ask 0 bun 0 ann bob cy | ask 1 ham 0 ann bob | take cy ann 5 | even ann bob cy | pay cy 3"
            " | fire one 0 | serve 0 | serve 1 | even ann cy | back 1 | ask 2 soup 1 bob | strike 2 | pay cy 1"
            " | take ann bob 1")
    COSTS = (0, 0, 0, 10, 17, 17, 17, 17, 17, 17, 17, 17, 10, 460, 10, 10, 10)
    PAID = (0,) * 7 + (3,) * 8 + (4,) * 2

    def test_behind_each_page(self):
        pages = book(self.TEXT)
        self.assertEqual(idle(HOUSE, pages), ())
        for many, (costs, paid) in enumerate(zip(self.COSTS, self.PAID)):
            self.assertEqual(sums(HOUSE, pages[:many + 1]), (costs, paid, costs - paid), many)

    def test_below_nought(self):
        self.assertEqual(sums(HOUSE, book("sit ann one | " + BELOW)), (0, 10, -10))

    def test_who_went_counts_as_well(self):
        text = TWO + " | ask 0 bun 0 ann bob | pay bob 5 | go bob"
        self.assertEqual(sums(HOUSE, book(text)), (10, 5, 5))
        self.assertEqual(sums(HOUSE, book(text + " | change 0 soup")), (450, 5, 445))

    def test_costs_are_paid_and_left(self):
        for pages in BOOKS[:40]:
            for many in range(len(pages) + 1):
                costs, paid, left = sums(HOUSE, pages[:many])
                self.assertEqual(costs, paid + left)
                self.assertEqual(left, sum(pence for seat, pence in to_pay(HOUSE, pages[:many])))
                living = [row[5] for row in dishes(HOUSE, pages[:many]) if row[1] in ("asked", "fired", "served")]
                self.assertEqual(costs, sum(living))

    def test_take_and_even_turn_none(self):
        """[42], [48]"""
        seen = set()
        for pages in BOOKS[:60]:
            lazy = dict(idle(HOUSE, pages))
            for many, (name, deed) in enumerate(pages):
                if deed[0] in ("take", "even") and name not in lazy:
                    self.assertEqual(sums(HOUSE, pages[:many + 1]), sums(HOUSE, pages[:many]))
                    seen.add(deed[0])
        self.assertEqual(seen, {"take", "even"})


class TestSo(Checks):
    def test_behind_an_even_to_one_penny(self):
        """[48]"""
        odd = 0
        for pages in BOOKS:
            lazy = dict(idle(HOUSE, pages))
            for many, (name, deed) in enumerate(pages):
                if deed[0] == "even" and name not in lazy:
                    told = dict(to_pay(HOUSE, pages[:many + 1]))
                    pence = [told[seat] for seat in deed[1]]
                    self.assertLessEqual(max(pence) - min(pence), 1)
                    odd += max(pence) - min(pence)
        self.assertGreater(odd, 0)

    def test_parted_again_and_again(self):
        """[48]"""
        text = THREE + " | ask 0 soup 0 ann bob cy | ask 1 ham 0 cy | ask 2 ham 0 ann cy"
        dice = random.Random(7)
        for page in range(30):
            seats = dice.sample(("ann", "bob", "cy"), 2)
            text += " | " + dice.choice((f"take {seats[0]} {seats[1]} {dice.randint(1, 99)}",
                                         "even " + " ".join(sorted(seats)), "even ann bob cy"))
        pages = book(text)
        for many in range(6, len(pages) + 1):
            self.assertEqual(sum(pence for seat, pence in to_pay(HOUSE, pages[:many])), 464)
        self.assertGreater(len(pages) - len(idle(HOUSE, pages)), 25)

    def test_moves_and_joins_turn_nothing(self):
        """[33]"""
        for at, pages in enumerate(BOOKS[:30]):
            dice = random.Random(at)
            for number in range(3):
                deed = dice.choice((("move", dice.choice(SEATS), dice.choice(TABLES)),
                                    ("join",) + tuple(dice.sample(TABLES, 2))))
                moved = pages + (((10 ** 5, number), deed),)
                self.assertEqual(to_pay(HOUSE, moved), to_pay(HOUSE, pages))
                self.assertEqual(sums(HOUSE, moved), sums(HOUSE, pages))

    def test_the_set_of_pages_alone_goes(self):
        """[34]"""
        for at, pages in enumerate(BOOKS[:30]):
            mixed = list(pages + pages[::2])
            random.Random(at).shuffle(mixed)
            self.assertEqual(to_pay(HOUSE, book_of(tuple(mixed))), to_pay(HOUSE, pages))
            self.assertEqual(sums(HOUSE, book_of(tuple(mixed))), sums(HOUSE, pages))

    def test_idle_pages_may_be_left_out(self):
        """[34]"""
        for pages in BOOKS:
            names = dict(idle(HOUSE, pages))
            fewer = tuple(page for page in pages if page[0] not in names)
            self.assertEqual(to_pay(HOUSE, fewer), to_pay(HOUSE, pages))
            self.assertEqual(sums(HOUSE, fewer), sums(HOUSE, pages))

    def test_what_is_told_may_be_handed_in(self):
        """[49]: what a SEAT OWES is paid to the penny, and then it may go."""
        for pages in BOOKS[:40]:
            seated = dict(sitting(HOUSE, pages))
            for seat, pence in to_pay(HOUSE, pages):
                if seated[seat] and pence > 0:
                    paid = pages + (((10 ** 5, 0), ("pay", seat, pence)), ((10 ** 5, 1), ("go", seat)))
                    self.assertEqual(idle(HOUSE, paid), idle(HOUSE, pages))
                    self.assertEqual(owes(HOUSE, paid, seat), 0)
                    much = pages + (((10 ** 5, 0), ("pay", seat, pence + 1)),)
                    self.assertEqual(idle(HOUSE, much)[-1], ((10 ** 5, 0), "much"))

    def test_nothing_is_changed_and_nothing_hangs_on_what_was_asked(self):
        """[2]"""
        house, books = copy.deepcopy(HOUSE), copy.deepcopy(BOOKS[:20])

        def told(pages):
            return (to_pay(house, pages), to_pay(house, pages, 600), sums(house, pages),
                    [owes(house, pages, seat) for seat in SEATS[:3]])

        first = [told(pages) for pages in books]
        self.assertEqual([told(pages) for pages in reversed(books)][::-1], first)
        self.assertEqual((house, books), (HOUSE, BOOKS[:20]))

    def test_beyond_the_bounds(self):
        """[6]"""
        house = ((("gold", 0, ((0, 10 ** 30),)),), (), 0, 1)
        seats = tuple(sorted(first + second for first in "abcd" for second in "abcd"))
        pages = tuple(((0, at), ("sit", seat, "one")) for at, seat in enumerate(seats))
        pages += tuple(((1, at), ("ask", at, "gold", 0, seats[:3])) for at in range(50))
        pages += (((2, 0), ("even", seats)), ((3, 0), ("pay", "aa", 10 ** 30)))
        self.assertEqual(idle(house, pages), ())
        self.assertEqual(owes(house, pages, "dd"), 50 * 10 ** 30 // 16)
        self.assertEqual(owes(house, pages, "aa"), 50 * 10 ** 30 // 16 - 10 ** 30)
        self.assertEqual(sums(house, pages), (50 * 10 ** 30, 10 ** 30, 49 * 10 ** 30))


if __name__ == "__main__":
    unittest.main()
