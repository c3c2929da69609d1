"""[38], [39], [40], with the RUN and SHARES of [5]."""

import copy
import itertools
import unittest

from tablebills.dealing import deal, dealt_on
from tablebills.errors import NoDish
from tablebills.runs import run, shares_of
from tablebills.walking import dishes, history
from tests.chances import BOOKS, EACH
from tests.samples import ANY_THINGS, deep
from tests.walks import HOUSE, SEATS, book

TWO = "sit ann one | sit bob one"
THREE = TWO + " | sit cy one"
TWELVE = tuple("abcdefghijkl")
PARTIES = tuple(party for many in (1, 2, 3, 4) for party in itertools.combinations(SEATS, many))


class Checks(unittest.TestCase):
    def runs(self, wanted, text, *seats):
        self.assertEqual(run(HOUSE, book(text), seats), wanted, (text, seats))

    def shares(self, wanted, text, dish=0):
        self.assertEqual(shares_of(HOUSE, book(text), dish), wanted, (text, dish))


class TestRun(Checks):
    def test_of_one_seat(self):
        text = TWO + " | ask 5 bun 0 ann | ask 2 ham 1 ann | ask 9 bun 0 ann"
        self.runs(((5, 0, 10), (2, 10, 17), (9, 17, 27)), text, "ann")
        self.runs((), text, "bob")

    def test_of_several(self):
        text = THREE + " | ask 5 bun 0 ann bob | ask 2 ham 1 ann bob | ask 0 ham 0 ann bob cy"
        self.runs(((5, 0, 10), (2, 10, 17)), text, "ann", "bob")
        self.runs(((0, 0, 7),), text, "ann", "bob", "cy")

    def test_by_just_these(self):
        text = THREE + " | ask 0 bun 0 ann | ask 1 bun 0 ann bob | ask 2 bun 0 ann bob cy | ask 3 bun 0 bob"
        self.runs(((0, 0, 10),), text, "ann")
        self.runs(((1, 0, 10),), text, "ann", "bob")
        self.runs(((2, 0, 10),), text, "ann", "bob", "cy")
        self.runs(((3, 0, 10),), text, "bob")
        self.runs((), text, "ann", "cy")
        self.runs((), text, "bob", "cy")

    def test_of_seats_that_never_asked(self):
        text = TWO + " | ask 0 bun 0 ann"
        for seats in (("bob",), ("zoe",), ("ann", "zoe"), ("one",), ("bun",)):
            self.runs((), text, *seats)
        self.runs((), "", "ann")
        self.runs((), TWO, "ann")

    def test_as_they_were_asked(self):
        # Neither by their NUMBERS nor by their courses.
        self.runs(((9, 0, 7), (1, 7, 17), (5, 17, 24)),
                  "sit ann one | ask 9 ham 3 ann | ask 1 bun 0 ann | ask 5 ham 2 ann", "ann")

    def test_those_that_live_no_more(self):
        text = TWO + " | ask 0 ham 0 ann bob | ask 1 bun 0 ann bob | ask 2 ham 1 ann bob"
        wanted = ((0, 0, 7), (1, 7, 17), (2, 17, 24))
        for more in ("strike 0", "strike 1", "fire one 0 | serve 0 | back 0", "fire one 0 | strike 1",
                     "strike 0 | strike 1 | strike 2"):
            self.runs(wanted, f"{text} | {more}", "ann", "bob")

    def test_whatever_their_states(self):
        text = TWO + " | ask 0 ham 0 ann bob | ask 1 bun 1 ann bob"
        for more in ("fire one 0", "fire one 0 | serve 0", "move ann two", "pay ann 9", "even ann bob"):
            self.runs(((0, 0, 7), (1, 7, 17)), f"{text} | {more}", "ann", "bob")

    def test_a_dish_that_was_changed(self):
        text = TWO + " | ask 0 ham 0 ann | ask 1 ham 0 ann | ask 2 ham 0 ann | change 1 bun"
        self.runs(((0, 0, 7), (1, 7, 17), (2, 17, 24)), text, "ann")
        self.runs(((0, 0, 0), (1, 0, 10), (2, 10, 17)), text + " | change 0 water", "ann")
        # Behind a fire a "change" is IDLE.
        self.runs(((0, 0, 7), (1, 7, 17), (2, 17, 24)), text + " | fire one 0 | change 0 water", "ann")

    def test_one_that_was_idle(self):
        self.runs(((0, 0, 10),), TWO + " | ask 1 tart 0 ann | ask 0 bun 0 ann | ask 0 ham 0 ann | ask 2 ham 0 ann cy",
                  "ann")
        self.runs((), TWO + " | ask 2 ham 0 ann cy", "ann", "cy")

    def test_costs_of_nought(self):
        self.runs(((0, 0, 0), (1, 0, 7), (2, 7, 7)), "sit ann one | ask 0 water 0 ann | ask 1 ham 0 ann"
                  " | ask 2 water 0 ann", "ann")

    def test_the_cost_of_the_minute(self):
        pages = book("sit ann one | ask 0 soup 0 ann | ask 1 soup 0 ann", 598)
        self.assertEqual(run(HOUSE, pages, ("ann",)), ((0, 0, 450), (1, 450, 675)))

    def test_by_names(self):
        pages = book(TWO + " | ask 0 bun 0 ann")
        self.assertEqual(run(seats=("ann",), book=pages, house=HOUSE), ((0, 0, 10),))
        self.assertEqual(shares_of(dish=0, book=pages, house=HOUSE), (("ann", 10),))

    def test_against_the_words(self):
        for pages, words in EACH:
            for seats in PARTIES:
                self.assertEqual(run(HOUSE, pages, seats), words.run(seats))


class TestShares(Checks):
    def test_alone(self):
        self.shares((("ann", 10),), TWO + " | ask 0 bun 0 ann")
        self.shares((("ann", 7),), TWO + " | ask 1 bun 0 ann | ask 0 ham 0 ann")

    def test_the_turn_goes_on(self):
        text = THREE
        for dish in range(6):
            text += f" | ask {dish} bun 0 ann bob cy"
            self.shares(tuple((seat, 3 + (dish % 3 == at)) for at, seat in enumerate(("ann", "bob", "cy"))), text, dish)
        text = TWO + " | ask 0 ham 0 ann bob | ask 1 ham 0 ann bob"
        self.shares((("ann", 4), ("bob", 3)), text, 0)
        self.shares((("ann", 3), ("bob", 4)), text, 1)

    def test_of_each_run_by_itself(self):
        text = THREE + " | ask 0 ham 0 ann bob | ask 1 ham 0 ann cy | ask 2 ham 0 ann bob"
        self.shares((("ann", 4), ("cy", 3)), text, 1)
        self.shares((("ann", 3), ("bob", 4)), text, 2)

    def test_where_it_lives_no_more(self):
        text = TWO + " | ask 0 ham 0 ann bob | ask 1 ham 0 ann bob"
        for more in ("strike 0", "strike 1", "fire one 0 | serve 0 | back 0", "fire one 0 | strike 1"):
            self.shares((("ann", 4), ("bob", 3)), f"{text} | {more}", 0)
            self.shares((("ann", 3), ("bob", 4)), f"{text} | {more}", 1)

    def test_noughts(self):
        self.shares((("ann", 0),), TWO + " | ask 0 water 0 ann")
        self.shares((("ann", 0), ("bob", 0), ("cy", 0)), THREE + " | ask 0 water 0 ann bob cy")
        self.shares((("ann", 0), ("bob", 0)), TWO + " | ask 1 ham 0 ann bob | ask 0 water 0 ann bob")

    def test_of_twelve_seats(self):
        text = " | ".join(f"sit {seat} one" for seat in TWELVE)
        party = " ".join(TWELVE)
        text += f" | ask 0 ham 0 {party} | ask 1 bun 0 {party} | ask 2 soup 0 {party} | ask 3 ham 1 {party}"
        self.shares(tuple((seat, int(at < 7)) for at, seat in enumerate(TWELVE)), text, 0)
        # Ten more, begun at 7: the last five, and the first five.
        self.shares(tuple((seat, int(at >= 7 or at < 5)) for at, seat in enumerate(TWELVE)), text, 1)
        self.shares(tuple((seat, 37 + (5 <= at < 11)) for at, seat in enumerate(TWELVE)), text, 2)
        self.shares(tuple((seat, int(at == 11 or at < 6)) for at, seat in enumerate(TWELVE)), text, 3)

    def test_behind_a_change(self):
        text = TWO + " | ask 0 ham 0 ann bob | ask 1 ham 0 ann bob | change 0 bun"
        self.shares((("ann", 5), ("bob", 5)), text, 0)
        self.shares((("ann", 4), ("bob", 3)), text, 1)

    def test_wherever_they_sit(self):
        text = TWO + " | ask 0 ham 0 ann bob"
        for more in ("move ann two", "join two one", "pay ann 4 | go ann", "pay bob 3", "take ann bob 2", "even ann bob"):
            self.shares((("ann", 4), ("bob", 3)), f"{text} | {more}")

    def test_against_the_words(self):
        for pages, words in EACH:
            for row in words.asked():
                self.assertEqual(shares_of(HOUSE, pages, row[0]), words.shares(row[0]))


class TestNoDish(Checks):
    PAGES = book(TWO + " | ask 0 bun 0 ann | ask 1 bun 0 ann | ask 2 tart 0 ann | strike 1")

    def test_things_of_any_kind(self):
        things = ANY_THINGS + ("0", "1", 2, 3, -2, (0,), [0], [1], (1,), deep(20, 0), (0, 1), "bun", "ann")
        for thing in things:
            if thing in (0, 1) and not isinstance(thing, bool):
                continue
            with self.assertRaises(NoDish) as caught:
                shares_of(HOUSE, self.PAGES, thing)
            self.assertIs(caught.exception.dish, thing)
        self.shares((("ann", 10),), TWO + " | ask 1 bun 0 ann", 1)

    def test_of_an_empty_book(self):
        for thing in (0, 1, None, [0]):
            with self.assertRaises(NoDish) as caught:
                shares_of(HOUSE, (), thing)
            self.assertIs(caught.exception.dish, thing)


class TestSo(unittest.TestCase):
    """[40]"""

    def test_shares_come_to_the_cost(self):
        for pages in BOOKS:
            for dish, state, item, course, seats, cost in dishes(HOUSE, pages):
                shares = shares_of(HOUSE, pages, dish)
                self.assertEqual([seat for seat, pence in shares], list(seats))
                self.assertEqual(sum(pence for seat, pence in shares), cost)

    def in_a_row(self, pages, seats):
        """For any DISHES in a row of the RUN what each SEAT has of them, added."""
        rows = [[pence for seat, pence in shares_of(HOUSE, pages, dish)] for dish, begin, end in run(HOUSE, pages, seats)]
        return {(first, last): [sum(hand) for hand in zip(*rows[first:last])]
                for first in range(len(rows)) for last in range(first + 1, len(rows) + 1)}

    def test_the_same_to_one_penny(self):
        most = 0
        for pages in BOOKS:
            for seats in PARTIES:
                for row in self.in_a_row(pages, seats).values():
                    self.assertLessEqual(max(row) - min(row), 1)
                most = max(most, len(run(HOUSE, pages, seats)))
        self.assertGreater(most, 3)

    def test_the_same_to_one_penny_in_a_long_run(self):
        text = THREE + "".join(f" | ask {dish} {('ham', 'bun', 'soup', 'tea')[dish % 4]} 0 ann bob cy"
                               for dish in range(17))
        pages = book(text + " | strike 3 | strike 8", 590)
        for row in self.in_a_row(pages, ("ann", "bob", "cy")).values():
            self.assertLessEqual(max(row) - min(row), 1)

    def test_a_change_turns_what_comes_behind_by_a_penny(self):
        turned = 0
        for pages in BOOKS[:60]:
            for dish, state, item, course, seats, cost in dishes(HOUSE, pages, "asked"):
                changed = pages + (((10 ** 5, 0), ("change", dish, "bun" if item == "ham" else "ham")),)
                place = [row[0] for row in run(HOUSE, pages, seats)].index(dish)
                ahead, behind = self.in_a_row(pages, seats), self.in_a_row(changed, seats)
                for first, last in ahead:
                    if last <= place:
                        self.assertEqual(behind[first, last], ahead[first, last])
                    if first > place:
                        turns = [abs(new - old) for new, old in zip(behind[first, last], ahead[first, last])]
                        self.assertLessEqual(max(turns), 1)
                        turned += max(turns)
                for other in PARTIES:
                    if other != seats:
                        self.assertEqual(self.in_a_row(changed, other), self.in_a_row(pages, other))
        self.assertGreater(turned, 0)

    def test_what_is_told_may_be_handed_in(self):
        """[21], [49]"""
        for pages in BOOKS[:40]:
            for seats in PARTIES:
                rows = run(HOUSE, pages, seats)
                pieces = tuple(end - begin for dish, begin, end in rows)
                for (dish, begin, end), parts in zip(rows, dealt_on(pieces, len(seats))):
                    self.assertEqual(shares_of(HOUSE, pages, dish), tuple(zip(seats, parts)))
                    self.assertEqual(parts, deal(end - begin, len(seats), begin))
                    self.assertEqual(history(HOUSE, pages, dish)[0][1], "asked")

    def test_nothing_is_changed_and_nothing_hangs_on_what_was_asked(self):
        """[2]"""
        house, books = copy.deepcopy(HOUSE), copy.deepcopy(BOOKS[:20])

        def told(pages):
            return ([run(house, pages, seats) for seats in PARTIES],
                    [shares_of(house, pages, row[0]) for row in dishes(house, pages)])

        first = [told(pages) for pages in books]
        self.assertEqual([told(pages) for pages in reversed(books)][::-1], first)
        self.assertEqual((house, books), (HOUSE, BOOKS[:20]))

    def test_beyond_the_bounds(self):
        """[6]"""
        house = ((("gold", 0, ((0, 10 ** 30 + 1),)),), (), 0, 1)
        seats = tuple(sorted(first + second for first in "abcde" for second in "abcde"))
        pages = tuple(((0, at), ("sit", seat, "one")) for at, seat in enumerate(seats))
        pages += tuple(((1, at), ("ask", 10 ** 40 + at, "gold", 0, seats)) for at in range(50))
        rows = run(house, pages, seats)
        self.assertEqual(rows[-1], (10 ** 40 + 49, 49 * (10 ** 30 + 1), 50 * (10 ** 30 + 1)))
        for at in range(50):
            shares = shares_of(house, pages, 10 ** 40 + at)
            # The odd penny goes on by one hand with each DISH.
            self.assertEqual(shares, tuple((seat, 10 ** 30 // 25 + (at % 25 == hand))
                                           for hand, seat in enumerate(seats)))


if __name__ == "__main__":
    unittest.main()
