"""[4], [5], [26], [27], [28] The walk, by hand."""

import unittest

from tablebills.errors import NoDish
from tablebills.walking import dishes, history, idle, sitting, table_of
from tests.samples import ANY_THINGS, deep
from tests.walks import HOUSE, book

TWO = "sit ann one | sit bob one"
THREE = TWO + " | sit cy one"
# ann has paid a bun that goes back: she has 10 below 0 TO PAY.
BELOW = "ask 90 bun 0 ann | fire one 0 | serve 90 | pay ann 10 | back 90"


def reasons(text, first=0):
    """The reasons of the IDLE PAGES of a BOOK, by their places in it."""
    pages = book(text, first)
    names = [page[0] for page in pages]
    return {names.index(name): reason for name, reason in idle(HOUSE, pages)}


def states(text, first=0):
    return {row[0]: row[1] for row in dishes(HOUSE, book(text, first))}


def costs(text, first=0):
    return {row[0]: row[5] for row in dishes(HOUSE, book(text, first))}


class Checks(unittest.TestCase):
    def last_is(self, reason, text, first=0):
        """The last PAGE alone is IDLE, for this reason; none is where it is None."""
        wanted = {} if reason is None else {len(text.split(" | ")) - 1: reason}
        self.assertEqual(reasons(text, first), wanted, text)

    def owe(self, text, first=0, **pence):
        """Each of these SEATS, who sit, has just so much TO PAY, 0 and more."""
        for seat, owed in pence.items():
            if owed:
                self.last_is(None, f"{text} | pay {seat} {owed}", first)
            else:
                self.last_is(None, f"{text} | go {seat}", first)
            self.last_is("much", f"{text} | pay {seat} {owed + 1}", first)


class TestSeats(Checks):
    def test_sit(self):
        self.assertEqual(sitting(HOUSE, book("sit ann one")), (("ann", "one"),))
        self.assertEqual(sitting(HOUSE, book("sit cy two | sit ann one | sit bob two")),
                         (("ann", "one"), ("bob", "two"), ("cy", "two")))
        self.last_is(None, "sit ann one")
        self.last_is("here", "sit ann one | sit ann one")
        self.last_is("here", "sit ann one | sit ann two")
        self.assertEqual(sitting(HOUSE, book("sit ann one | sit ann two")), (("ann", "one"),))
        self.last_is("here", "sit ann one | move ann two | sit ann one")
        self.last_is("here", "sit ann one | join two one | sit ann one")

    def test_move(self):
        self.assertEqual(sitting(HOUSE, book(TWO + " | move ann two")), (("ann", "two"), ("bob", "one")))
        self.assertEqual(sitting(HOUSE, book(TWO + " | move ann one")), (("ann", "one"), ("bob", "one")))
        self.last_is(None, TWO + " | move ann one")
        self.last_is("gone", TWO + " | move cy two")
        self.assertEqual(sitting(HOUSE, book("move cy two")), ())
        self.last_is("gone", TWO + " | go ann | move ann two")

    def test_go(self):
        self.assertEqual(sitting(HOUSE, book(TWO + " | go ann")), (("ann", ""), ("bob", "one")))
        self.last_is(None, TWO + " | go ann")
        self.last_is("gone", TWO + " | go cy")
        self.last_is("gone", TWO + " | go ann | go ann")
        self.assertEqual(sitting(HOUSE, book("go ann")), ())

    def test_who_went_sits_again(self):
        text = TWO + " | go ann | sit ann two"
        self.last_is(None, text)
        self.assertEqual(sitting(HOUSE, book(text)), (("ann", "two"), ("bob", "one")))
        self.last_is("here", text + " | sit ann two")
        self.last_is(None, text + " | go ann | sit ann one | move ann two | go ann")

    def test_go_with_something_to_pay(self):
        self.last_is("owes", "sit ann one | ask 0 bun 0 ann | go ann")
        self.last_is("owes", "sit ann one | ask 0 bun 0 ann | pay ann 9 | go ann")
        self.last_is(None, "sit ann one | ask 0 bun 0 ann | pay ann 10 | go ann")
        self.last_is(None, "sit ann one | ask 0 water 0 ann | go ann")
        self.last_is(None, "sit ann one | ask 0 bun 0 ann | strike 0 | go ann")
        self.last_is(None, TWO + " | ask 0 bun 0 ann | go bob")
        self.last_is("owes", TWO + " | ask 0 bun 0 ann bob | pay ann 5 | go bob")

    def test_go_with_something_below_nought(self):
        self.last_is("owes", "sit ann one | " + BELOW + " | go ann")
        self.last_is("owes", "sit ann one | " + BELOW + " | ask 1 ham 0 ann | go ann")
        self.last_is(None, "sit ann one | " + BELOW + " | ask 1 bun 0 ann | go ann")

    def test_gone_goes_ahead_of_owes(self):
        # bob's share of what was changed behind his going is TO PAY, and he is gone.
        text = TWO + " | ask 0 water 0 ann bob | go bob | change 0 bun"
        self.last_is("gone", text + " | go bob")
        self.last_is("owes", text + " | sit bob two | go bob")
        self.last_is("gone", TWO + " | " + BELOW + " | go dan")

    def test_join(self):
        text = "sit ann one | sit bob two | sit cy two | sit dan three"
        self.assertEqual(sitting(HOUSE, book(text + " | join one two")),
                         (("ann", "one"), ("bob", "one"), ("cy", "one"), ("dan", "three")))
        self.assertEqual(sitting(HOUSE, book(text + " | join two one")),
                         (("ann", "two"), ("bob", "two"), ("cy", "two"), ("dan", "three")))
        self.last_is(None, text + " | join one two")

    def test_join_of_a_table_where_nobody_sits(self):
        self.last_is("empty", "join one two")
        self.last_is("empty", "sit ann one | join one two")
        self.last_is("empty", "sit ann one | go ann | join two one")
        self.last_is("empty", "sit ann one | move ann two | join three one")
        self.last_is("empty", "sit ann one | join two one | join three one")
        self.assertEqual(sitting(HOUSE, book("sit ann one | join one two")), (("ann", "one"),))

    def test_join_to_a_table_where_nobody_sits(self):
        self.assertEqual(sitting(HOUSE, book(TWO + " | join two one")), (("ann", "two"), ("bob", "two")))
        self.last_is(None, TWO + " | join two one")

    def test_who_went_joins_nothing(self):
        self.assertEqual(sitting(HOUSE, book(TWO + " | go ann | join two one")), (("ann", ""), ("bob", "two")))


class TestAsked(Checks):
    def test_ask(self):
        pages = book(TWO + " | ask 3 bun 2 ann bob | ask 1 ham 0 bob")
        self.assertEqual(idle(HOUSE, pages), ())
        self.assertEqual(dishes(HOUSE, pages), ((1, "asked", "ham", 0, ("bob",), 7),
                                                (3, "asked", "bun", 2, ("ann", "bob"), 10)))

    def test_each_reason(self):
        self.last_is("known", TWO + " | ask 0 bun 0 ann | ask 0 bun 0 ann")
        self.last_is("known", TWO + " | ask 0 bun 0 ann | ask 0 ham 1 bob")
        self.last_is("item", TWO + " | ask 0 tart 0 ann")
        self.last_is("gone", TWO + " | ask 0 bun 0 cy")
        self.last_is("gone", TWO + " | ask 0 bun 0 ann cy")
        self.last_is("gone", TWO + " | go bob | ask 0 bun 0 ann bob")
        self.last_is("apart", TWO + " | move bob two | ask 0 bun 0 ann bob")
        self.last_is("apart", THREE + " | move cy two | ask 0 bun 0 ann bob cy")
        self.last_is("apart", THREE + " | move ann two | ask 0 bun 0 ann bob cy")
        self.last_is("apart", THREE + " | move bob two | ask 0 bun 0 ann bob cy")
        self.last_is(None, TWO + " | move bob two | join two one | ask 0 bun 0 ann bob")

    def test_known_whatever_became_of_it(self):
        asked = TWO + " | ask 0 bun 0 ann"
        for more in ("fire one 0", "fire one 0 | serve 0", "fire one 0 | serve 0 | back 0", "strike 0"):
            self.last_is("known", f"{asked} | {more} | ask 0 bun 0 ann")

    def test_not_known_by_one_that_was_idle(self):
        text = TWO + " | ask 0 tart 0 ann | ask 0 bun 1 bob"
        self.assertEqual(reasons(text), {2: "item"})
        self.assertEqual(dishes(HOUSE, book(text)), ((0, "asked", "bun", 1, ("bob",), 10),))

    def test_the_first_of_two(self):
        asked = TWO + " | ask 0 bun 0 ann"
        self.last_is("known", asked + " | ask 0 tart 0 ann")
        self.last_is("known", asked + " | ask 0 bun 0 cy")
        self.last_is("known", asked + " | move bob two | ask 0 bun 0 ann bob")
        self.last_is("item", TWO + " | ask 0 tart 0 cy")
        self.last_is("item", TWO + " | move bob two | ask 0 tart 0 ann bob")
        self.last_is("gone", TWO + " | move bob two | ask 0 bun 0 ann bob cy")

    def test_numbers_rise(self):
        pages = book("sit ann one | ask 10 bun 0 ann | ask 9 bun 0 ann | ask 100 bun 0 ann | ask 0 bun 0 ann")
        self.assertEqual([row[0] for row in dishes(HOUSE, pages)], [0, 9, 10, 100])


class TestChanges(Checks):
    ASKED = TWO + " | ask 0 bun 0 ann"

    def test_change(self):
        pages = book(self.ASKED + " | change 0 ham")
        self.assertEqual(dishes(HOUSE, pages), ((0, "asked", "ham", 0, ("ann",), 7),))
        self.assertEqual(idle(HOUSE, pages), ())
        self.assertEqual(dishes(HOUSE, book(self.ASKED + " | change 0 ham | change 0 bun")),
                         ((0, "asked", "bun", 0, ("ann",), 10),))

    def test_each_reason(self):
        self.last_is("dish", self.ASKED + " | change 1 bun")
        self.last_is("item", self.ASKED + " | change 0 tart")
        self.last_is("dish", self.ASKED + " | change 1 tart")
        self.last_is("dish", self.ASKED + " | fire one 0 | change 0 tart")

    def test_behind_a_fire(self):
        for more in ("fire one 0", "rush one 0", "fire one 0 | serve 0", "fire one 0 | serve 0 | back 0", "strike 0"):
            text = f"{self.ASKED} | {more} | change 0 ham"
            self.last_is("dish", text)
            self.assertEqual(dishes(HOUSE, book(text))[0][2:], ("bun", 0, ("ann",), 10))

    def test_ahead_of_a_fire(self):
        text = self.ASKED + " | change 0 ham | fire one 0"
        self.last_is(None, text)
        self.assertEqual(dishes(HOUSE, book(text)), ((0, "fired", "ham", 0, ("ann",), 7),))

    def test_the_cost_is_of_the_minute_of_its_page(self):
        soup = TWO + " | ask 0 soup 0 ann"
        # The "ask" is at minute 2 behind first.
        self.assertEqual(costs(soup, 0), {0: 450})
        self.assertEqual(costs(soup, 597), {0: 450})
        self.assertEqual(costs(soup, 598), {0: 225})
        self.assertEqual(costs(soup, 717), {0: 225})
        self.assertEqual(costs(soup, 718), {0: 450})
        self.assertEqual(costs(soup, 897), {0: 450})
        self.assertEqual(costs(soup, 898), {0: 500})

    def test_later_pages_turn_no_cost(self):
        self.assertEqual(costs(TWO + " | ask 0 soup 0 ann | fire one 0 | serve 0", 597), {0: 450})
        self.assertEqual(costs(TWO + " | ask 0 soup 0 ann | fire one 0 | serve 0", 717), {0: 225})

    def test_a_change_at_a_minute_of_another_price_or_off(self):
        text = TWO + " | ask 0 soup 0 ann | change 0 soup"
        self.assertEqual(costs(text, 596), {0: 450})
        self.assertEqual(costs(text, 597), {0: 225})
        self.assertEqual(costs(text, 716), {0: 225})
        self.assertEqual(costs(text, 717), {0: 450})
        self.assertEqual(costs(text, 897), {0: 500})
        self.assertEqual(costs(TWO + " | ask 0 soup 0 ann | change 0 tea", 597), {0: 100})
        # A "change" behind a fire is IDLE and turns no COST.
        self.assertEqual(costs(TWO + " | ask 0 soup 0 ann | fire one 0 | change 0 soup", 596), {0: 450})


class TestFires(Checks):
    ASKED = TWO + " | ask 0 bun 0 ann | ask 1 bun 0 bob | ask 2 ham 1 ann bob | ask 3 ham 2 ann"

    def test_fire_and_rush(self):
        for word in ("fire", "rush"):
            text = f"{self.ASKED} | {word} one 0"
            self.last_is(None, text)
            self.assertEqual(states(text), {0: "fired", 1: "fired", 2: "asked", 3: "asked"})

    def test_empty(self):
        for word in ("fire", "rush"):
            self.last_is("empty", f"{self.ASKED} | {word} two 0")
            self.last_is("empty", f"{word} one 0")
            self.last_is("empty", f"{self.ASKED} | fire one 0 | {word} one 0")
            self.last_is("empty", f"{TWO} | ask 0 bun 0 ann | strike 0 | {word} one 0")
            # "empty" goes ahead of "turn".
            self.last_is("empty", f"{self.ASKED} | {word} one 5")

    def test_barred_by_what_is_asked(self):
        self.last_is("turn", self.ASKED + " | fire one 1")
        self.last_is("turn", self.ASKED + " | fire one 2")
        self.last_is("turn", self.ASKED + " | strike 0 | fire one 1")
        self.assertEqual(states(self.ASKED + " | fire one 1")[2], "asked")

    def test_barred_by_what_is_fired(self):
        fired = self.ASKED + " | fire one 0"
        self.last_is("turn", fired + " | fire one 1")
        self.last_is("turn", fired + " | serve 0 | fire one 1")
        self.last_is("turn", fired + " | serve 0 | serve 1 | fire one 2")
        self.last_is(None, fired + " | serve 0 | serve 1 | fire one 1")
        self.last_is(None, fired + " | serve 0 | strike 1 | fire one 1")
        self.last_is(None, fired + " | serve 0 | serve 1 | back 0 | fire one 1")
        self.last_is("turn", fired + " | serve 0 | serve 1 | fire one 1 | fire one 2")
        self.last_is(None, fired + " | serve 0 | serve 1 | fire one 1 | serve 2 | fire one 2")

    def test_a_rush_all_the_same(self):
        for text in (self.ASKED + " | rush one 1", self.ASKED + " | fire one 0 | rush one 1"):
            self.last_is(None, text)
            self.assertEqual(states(text)[2], "fired")
            self.assertEqual(states(text)[3], "asked")
        # What was rushed bars what comes behind, not what comes ahead.
        self.last_is(None, self.ASKED + " | rush one 1 | fire one 0")
        self.last_is("turn", self.ASKED + " | rush one 1 | strike 0 | strike 1 | fire one 2")

    def test_others_bar_nothing(self):
        # A greater course, the same one, and another TABLE's.
        self.last_is(None, TWO + " | ask 0 bun 1 ann | ask 1 bun 2 ann | fire one 1")
        self.last_is(None, TWO + " | ask 0 bun 1 ann | fire one 1 | ask 1 bun 1 ann | fire one 1")
        self.last_is(None, TWO + " | move bob two | ask 0 bun 0 bob | ask 1 bun 1 ann | fire one 1")
        self.last_is("turn", TWO + " | move bob two | ask 0 bun 0 bob | ask 1 bun 1 ann | join one two | fire one 1")

    def test_asked_of_this_table_and_course_alone(self):
        text = TWO + " | move bob two | ask 0 bun 0 ann | ask 1 bun 0 bob | ask 2 bun 1 ann"
        self.assertEqual(states(text + " | fire one 0"), {0: "fired", 1: "asked", 2: "asked"})
        self.assertEqual(states(text + " | fire two 0"), {0: "asked", 1: "fired", 2: "asked"})
        self.assertEqual(states(text + " | join two one | fire two 0"), {0: "fired", 1: "fired", 2: "asked"})
        # One that was asked behind the fire isn't FIRED by it.
        self.assertEqual(states(text + " | fire one 0 | ask 3 bun 0 ann"),
                         {0: "fired", 1: "asked", 2: "asked", 3: "asked"})


class TestTurned(Checks):
    ASKED = TWO + " | ask 0 bun 0 ann"
    WAYS = {"asked": ASKED, "fired": ASKED + " | fire one 0", "served": ASKED + " | fire one 0 | serve 0",
            "back": ASKED + " | fire one 0 | serve 0 | back 0", "struck": ASKED + " | strike 0"}

    def test_the_states(self):
        for state, text in self.WAYS.items():
            self.last_is(None, text)
            self.assertEqual(states(text), {0: state})

    def test_serve_back_and_strike(self):
        let = {"serve": {"fired": "served"}, "back": {"served": "back"},
               "strike": {"asked": "struck", "fired": "struck"}}
        for word, behind in let.items():
            for state, text in self.WAYS.items():
                self.last_is(None if state in behind else "dish", f"{text} | {word} 0")
                self.assertEqual(states(f"{text} | {word} 0"), {0: behind.get(state, state)})

    def test_a_dish_that_wasnt_asked(self):
        for word in ("serve", "back", "strike"):
            self.last_is("dish", f"{self.ASKED} | {word} 1")
            self.last_is("dish", f"{word} 0")

    def test_another_dish_stays(self):
        text = self.ASKED + " | ask 1 ham 0 bob | fire one 0 | serve 1 | strike 0"
        self.assertEqual(states(text), {0: "struck", 1: "served"})


class TestTables(Checks):
    def table(self, text, dish=0):
        return table_of(HOUSE, book(text), dish)

    def test_the_first_seat_that_sits(self):
        text = THREE + " | ask 0 water 0 ann bob cy"
        self.assertEqual(self.table(text), "one")
        self.assertEqual(self.table(text + " | move ann two"), "two")
        self.assertEqual(self.table(text + " | move bob two"), "one")
        self.assertEqual(self.table(text + " | move bob two | go ann"), "two")
        self.assertEqual(self.table(text + " | move cy two | go ann"), "one")
        self.assertEqual(self.table(text + " | move cy three | go ann | go bob"), "three")
        self.assertEqual(self.table(text + " | go ann | sit ann two"), "two")

    def test_by_a_join(self):
        text = TWO + " | ask 0 bun 0 ann"
        self.assertEqual(self.table(text + " | join two one"), "two")
        self.assertEqual(self.table(text + " | join one two"), "one")

    def test_none_where_all_are_gone(self):
        text = TWO + " | ask 0 water 0 ann bob | go ann | go bob"
        self.assertIsNone(self.table(text))
        self.assertEqual(self.table(text + " | sit bob three"), "three")
        self.assertEqual(self.table(text + " | sit bob three | sit ann two"), "two")

    def test_whatever_its_state(self):
        for text in TestTurned.WAYS.values():
            self.assertEqual(self.table(text), "one")
            self.assertEqual(self.table(text + " | move ann two"), "two")

    def test_no_fire_and_no_turn_asks_one_of_no_table(self):
        gone = TWO + " | ask 0 water 0 ann | go ann"
        self.last_is("empty", gone + " | fire one 0")
        self.last_is("empty", gone + " | rush one 0")
        self.last_is(None, gone + " | ask 1 bun 1 bob | fire one 1")
        self.last_is("turn", gone + " | ask 1 bun 1 bob | sit ann one | fire one 1")
        self.last_is(None, gone + " | ask 1 bun 1 bob | sit ann two | fire one 1")
        self.last_is(None, gone + " | sit ann two | fire two 0")
        self.assertEqual(states(gone + " | sit ann two | fire two 0"), {0: "fired"})

    def test_it_is_served_struck_and_goes_back_all_the_same(self):
        gone = TWO + " | ask 0 water 0 ann | fire one 0 | go ann"
        self.last_is(None, gone + " | serve 0 | back 0")
        self.last_is(None, gone + " | strike 0")
        self.last_is(None, TWO + " | ask 0 water 0 ann | go ann | strike 0")
        self.last_is(None, TWO + " | ask 0 water 0 ann | go ann | change 0 bun")

    def test_a_dish_of_another_table_by_a_move_or_a_join(self):
        text = TWO + " | ask 0 bun 0 ann | ask 1 bun 1 bob"
        self.last_is("turn", text + " | fire one 1")
        self.last_is(None, text + " | move ann two | fire one 1")
        self.last_is("empty", text + " | move ann two | fire one 0")
        self.last_is(None, text + " | move ann two | fire two 0")
        self.last_is("empty", text + " | join two one | fire one 0")
        self.last_is(None, text + " | join two one | fire two 0")

    def test_by_names(self):
        self.assertEqual(table_of(dish=0, book=book(TestTurned.ASKED), house=HOUSE), "one")


class TestPaying(Checks):
    def test_pay(self):
        text = "sit ann one | ask 0 bun 0 ann"
        self.owe(text, ann=10)
        self.owe(text + " | pay ann 4", ann=6)
        self.owe(text + " | pay ann 4 | pay ann 6", ann=0)
        self.last_is("much", text + " | pay ann 11")
        self.last_is("much", "sit ann one | pay ann 1")
        self.last_is("much", "sit ann one | " + BELOW + " | pay ann 1")
        self.last_is("gone", "pay ann 1")
        self.last_is("gone", text + " | pay bob 1")

    def test_pay_gone_goes_ahead_of_much(self):
        self.last_is("gone", "sit ann one | go ann | pay ann 1")
        # Gone, and not too much either.
        self.last_is("gone", TWO + " | ask 0 water 0 ann bob | go bob | change 0 bun | pay bob 1")
        self.last_is(None, TWO + " | ask 0 water 0 ann bob | go bob | change 0 bun | sit bob two | pay bob 5")

    def test_take(self):
        text = TWO + " | ask 0 bun 0 bob"
        self.owe(text + " | take ann bob 4", ann=4, bob=6)
        self.owe(text + " | take ann bob 10", ann=10, bob=0)
        self.last_is("much", text + " | take ann bob 11")
        self.last_is("much", text + " | take bob ann 1")
        self.last_is("much", text + " | take ann bob 4 | take ann bob 7")
        self.last_is(None, text + " | take ann bob 4 | take bob ann 4")
        self.last_is("much", text + " | take ann bob 4 | take bob ann 5")
        self.owe(text + " | take ann bob 10 | pay ann 3 | take bob ann 7", ann=0, bob=7)

    def test_take_from_another_table(self):
        self.owe(TWO + " | ask 0 bun 0 bob | move ann two | take ann bob 4", ann=4, bob=6)

    def test_take_gone(self):
        text = TWO + " | ask 0 water 0 ann bob | go bob | change 0 bun"
        # bob has 5 TO PAY and is gone; ann has 5 and sits.
        self.last_is("gone", text + " | take ann bob 1")
        self.last_is("gone", text + " | take bob ann 1")
        self.last_is("gone", text + " | take ann bob 99")
        self.last_is("gone", text + " | take bob ann 99")
        self.last_is("gone", "take ann bob 1")
        self.last_is(None, text + " | sit bob one | take bob ann 1")

    def test_even(self):
        text = TWO + " | ask 0 bun 0 bob | even ann bob"
        self.owe(text, ann=5, bob=5)
        self.last_is(None, text)
        self.last_is("gone", TWO + " | even ann cy")
        self.last_is("gone", TWO + " | even ann bob cy")
        self.last_is("gone", TWO + " | go ann | even ann bob")
        self.owe(THREE + " | ask 0 bun 0 bob | even ann bob", ann=5, bob=5, cy=0)

    def test_even_by_tables(self):
        self.owe(TWO + " | ask 0 bun 0 bob | move ann two | even ann bob", ann=5, bob=5)

    def test_even_below_nought(self):
        below = TWO + " | " + BELOW
        self.last_is("below", below + " | even ann bob")
        self.last_is("below", below + " | ask 0 ham 0 bob | even ann bob")
        # A penny below 0, and a PAGE ahead that makes it 0.
        self.last_is("below", below + " | ask 0 bun 0 bob | pay bob 1 | even ann bob")
        self.last_is(None, below + " | ask 0 bun 0 bob | even ann bob")
        # "gone" goes ahead.
        self.last_is("gone", below + " | go bob | even ann bob")
        self.last_is("gone", below + " | even ann cy")

    def test_even_at_nought(self):
        self.last_is(None, TWO + " | even ann bob")
        text = TWO + " | " + BELOW + " | ask 0 bun 0 bob | even ann bob"
        self.owe(text, ann=0, bob=0)
        self.last_is(None, text + " | go ann | go bob")

    def test_even_above_nought_with_one_below(self):
        # 17 and 10 below 0 come to 7.
        self.owe(TWO + " | " + BELOW + " | ask 0 ham 0 bob | ask 1 bun 0 bob | even ann bob", ann=4, bob=3)

    def test_even_is_begun_at_the_number_of_evens_ahead(self):
        text = TWO + " | ask 0 ham 0 ann"
        self.owe(text + " | even ann bob", ann=4, bob=3)
        self.owe(text + " | even ann bob | even ann bob", ann=3, bob=4)
        self.owe(text + " | even ann bob | even ann bob | even ann bob", ann=4, bob=3)
        # Of whatever SEATS, also where they turn nothing.
        self.owe(text + " | sit cy two | sit dan two | even cy dan | even ann bob", ann=3, bob=4)
        # Ten over three, begun at 0, 1 and 2.
        three = THREE + " | ask 0 bun 0 cy"
        self.owe(three + " | even ann bob cy", ann=4, bob=3, cy=3)
        self.owe(three + " | even ann bob | even ann bob cy", ann=3, bob=4, cy=3)
        self.owe(three + " | even ann bob | even ann bob | even ann bob cy", ann=3, bob=3, cy=4)

    def test_an_even_that_was_idle_isnt_counted(self):
        text = TWO + " | ask 0 ham 0 ann"
        self.assertEqual(reasons(text + " | even ann cy | even ann bob | pay ann 4"), {3: "gone"})
        self.assertEqual(reasons(text + " | even ann cy | even ann bob | pay ann 5"), {3: "gone", 5: "much"})

    def test_what_comes_behind_an_even(self):
        text = TWO + " | ask 0 bun 0 bob | even ann bob"
        self.owe(text + " | ask 1 bun 0 ann", ann=15, bob=5)
        self.owe(text + " | pay ann 5 | change 0 ham", ann=0, bob=2)
        self.owe(text + " | pay bob 2", ann=5, bob=3)


class TestShares(Checks):
    def test_alone_and_shared(self):
        self.owe(TWO + " | ask 0 bun 0 ann | ask 1 ham 0 ann bob", ann=14, bob=3)
        self.owe(THREE + " | ask 0 bun 0 ann bob cy", ann=4, bob=3, cy=3)

    def test_odd_pence_by_a_turn(self):
        text = TWO
        owed = {"ann": 0, "bob": 0}
        for dish in range(5):
            text += f" | ask {dish} ham 0 ann bob"
            owed["ann"] += 3 + (dish + 1) % 2
            owed["bob"] += 3 + dish % 2
            self.owe(text, **owed)
        text = THREE
        owed = {"ann": 0, "bob": 0, "cy": 0}
        for dish in range(4):
            text += f" | ask {dish} bun 0 ann bob cy"
            for place, seat in enumerate(owed):
                owed[seat] += 3 + (dish % 3 == place)
            self.owe(text, **owed)

    def test_each_run_by_itself(self):
        # ann and bob, ann and cy: each pair's first odd penny is ann's.
        text = THREE + " | ask 0 ham 0 ann bob | ask 1 ham 0 ann cy | ask 2 ham 0 bob cy"
        self.owe(text, ann=8, bob=7, cy=6)
        self.owe(text + " | ask 3 ham 0 ann bob", ann=11, bob=11, cy=6)
        self.owe(text + " | ask 3 bun 0 ann bob cy", ann=12, bob=10, cy=9)

    def test_as_they_were_asked_not_as_they_are_called(self):
        self.owe(TWO + " | ask 9 ham 0 ann bob | ask 1 bun 0 ann bob | strike 1", ann=4, bob=3)
        self.owe(TWO + " | ask 9 ham 0 ann bob | ask 1 ham 0 ann bob | strike 9", ann=3, bob=4)

    def test_behind_one_that_lives_no_more(self):
        struck = TWO + " | ask 0 ham 0 ann bob | strike 0"
        self.owe(struck, ann=0, bob=0)
        self.owe(struck + " | ask 1 ham 0 ann bob", ann=3, bob=4)
        sent = TWO + " | ask 0 ham 0 ann bob | fire one 0 | serve 0 | back 0"
        self.owe(sent + " | ask 1 ham 0 ann bob", ann=3, bob=4)
        self.owe(TWO + " | ask 0 ham 0 ann bob | ask 1 ham 0 ann bob | strike 0", ann=3, bob=4)
        self.owe(TWO + " | ask 0 ham 0 ann bob | ask 1 ham 0 ann bob | strike 1", ann=4, bob=3)

    def test_a_change_turns_what_comes_behind_in_its_run(self):
        text = TWO + " | ask 0 ham 0 ann bob | ask 1 ham 0 ann bob | change 0 bun"
        self.owe(text, ann=9, bob=8)
        self.owe(text + " | strike 0", ann=4, bob=3)
        # A COST of an even number of pence passes the turn on.
        self.owe(TWO + " | ask 0 water 0 ann bob | ask 1 ham 0 ann bob", ann=4, bob=3)

    def test_all_that_lives(self):
        for state, text in TestTurned.WAYS.items():
            self.owe(text, ann=10 if state in ("asked", "fired", "served") else 0)

    def test_by_the_seats_wherever_they_sit(self):
        text = TWO + " | ask 0 ham 0 ann bob"
        self.owe(text + " | move ann two", ann=4, bob=3)
        self.owe(text + " | pay ann 4 | go ann | sit ann two", ann=0, bob=3)


class TestIdleDoesNothing(Checks):
    WALK = TWO + " | ask 0 bun 0 ann | ask 1 ham 1 ann bob | fire one 0 | take bob ann 5"
    IDLE = ("sit ann two", "move cy two", "go dan", "go ann", "join one two", "ask 0 ham 3 bob", "ask 5 tart 0 ann",
            "ask 5 bun 0 cy", "change 0 ham", "change 1 tart", "change 5 ham", "fire one 0", "fire one 1", "rush two 0",
            "serve 1", "back 0", "strike 5", "pay dan 1", "pay ann 500", "take ann dan 5", "take ann bob 500",
            "even ann dan")

    def told(self, pages):
        rows = dishes(HOUSE, pages)
        return (sitting(HOUSE, pages), rows, [table_of(HOUSE, pages, row[0]) for row in rows],
                [history(HOUSE, pages, row[0]) for row in rows])

    def test_each(self):
        pages = book(self.WALK)
        self.assertEqual(idle(HOUSE, pages), ())
        for deed in self.IDLE:
            with_it = pages + book(deed, 50)
            self.assertEqual([name for name, reason in idle(HOUSE, with_it)], [(50, 0)], deed)
            self.assertEqual(self.told(with_it), self.told(pages), deed)
            self.owe_alike(deed)

    def owe_alike(self, deed):
        # ann has 10 and 4 less 5 TO PAY, bob 3 and 5.
        for pence, reason in ((9, {}), (10, {7: "much"})):
            self.assertEqual(reasons(f"{self.WALK} | {deed} | pay ann {pence}"),
                             {6: reasons(f"{self.WALK} | {deed}")[6], **reason})
        for pence, reason in ((8, {}), (9, {7: "much"})):
            self.assertEqual(reasons(f"{self.WALK} | {deed} | pay bob {pence}"),
                             {6: reasons(f"{self.WALK} | {deed}")[6], **reason})


class TestTold(Checks):
    def test_idle_pages_rise(self):
        pages = book("go ann | sit ann one | sit ann one | serve 0 | pay ann 5", 5)
        self.assertEqual(idle(HOUSE, pages),
                         (((5, 0), "gone"), ((7, 0), "here"), ((8, 0), "dish"), ((9, 0), "much")))
        self.assertEqual(idle(house=HOUSE, book=pages), idle(HOUSE, pages))

    def test_names_of_one_minute(self):
        pages = (((5, 1), ("sit", "ann", "one")), ((5, 2), ("sit", "ann", "one")), ((5, 10), ("go", "bob")))
        self.assertEqual(idle(HOUSE, pages), (((5, 2), "here"), ((5, 10), "gone")))

    def test_sitting_rises_by_seats(self):
        pages = book("sit dan one | sit ann two | sit cy one | sit bob two | go cy")
        self.assertEqual(sitting(book=pages, house=HOUSE),
                         (("ann", "two"), ("bob", "two"), ("cy", ""), ("dan", "one")))

    def test_dishes_by_state(self):
        text = TWO + " | ask 4 bun 0 ann | ask 3 bun 0 ann | ask 2 bun 0 bob | ask 1 bun 0 bob | ask 5 ham 7 ann bob"
        text += " | ask 0 ham 1 bob | fire one 0 | serve 3 | serve 2 | back 3 | strike 1 | strike 0"
        pages = book(text)
        self.assertEqual(idle(HOUSE, pages), ())
        rows = ((0, "struck", "ham", 1, ("bob",), 7), (1, "struck", "bun", 0, ("bob",), 10),
                (2, "served", "bun", 0, ("bob",), 10), (3, "back", "bun", 0, ("ann",), 10),
                (4, "fired", "bun", 0, ("ann",), 10), (5, "asked", "ham", 7, ("ann", "bob"), 7))
        self.assertEqual(dishes(HOUSE, pages), rows)
        self.assertEqual(dishes(HOUSE, pages, None), rows)
        for state in ("asked", "fired", "served", "back", "struck"):
            self.assertEqual(dishes(HOUSE, pages, state), tuple(row for row in rows if row[1] == state))
            self.assertEqual(dishes(state=state, book=pages, house=HOUSE), dishes(HOUSE, pages, state))
        for state in ("", "Asked", "ask", "changed", "soup", " asked", "asked ", "None", "x" * 4000):
            self.assertEqual(dishes(HOUSE, pages, state), ())

    def test_history_in_each_way(self):
        asked = TWO + " | ask 0 bun 0 ann"
        for more, words in (("", ()), ("fire one 0", ("fired",)), ("rush one 0", ("fired",)), ("strike 0", ("struck",)),
                            ("fire one 0 | strike 0", ("fired", "struck")),
                            ("fire one 0 | serve 0", ("fired", "served")),
                            ("fire one 0 | serve 0 | back 0", ("fired", "served", "back")),
                            ("change 0 ham", ("changed",)), ("change 0 ham | change 0 ham", ("changed", "changed")),
                            ("change 0 ham | strike 0", ("changed", "struck")),
                            ("change 0 ham | change 0 bun | fire one 0 | serve 0 | back 0",
                             ("changed", "changed", "fired", "served", "back"))):
            pages = book(asked + (" | " + more if more else ""))
            wanted = tuple(((2 + at, 0), word) for at, word in enumerate(("asked",) + words))
            self.assertEqual(history(HOUSE, pages, 0), wanted)

    def test_history_has_no_idle_page_and_no_other_dish(self):
        pages = book(TWO + " | ask 0 bun 0 ann | serve 0 | ask 1 bun 0 bob | ask 0 bun 0 ann | change 1 ham"
                     " | change 0 tart | fire one 0 | change 0 ham | serve 1 | serve 0 | back 1 | strike 0")
        self.assertEqual(history(HOUSE, pages, 0), (((2, 0), "asked"), ((8, 0), "fired"), ((11, 0), "served")))
        self.assertEqual(history(dish=1, book=pages, house=HOUSE),
                         (((4, 0), "asked"), ((6, 0), "changed"), ((8, 0), "fired"), ((10, 0), "served"),
                          ((12, 0), "back")))

    def test_no_dish(self):
        pages = book(TWO + " | ask 0 bun 0 ann | ask 1 bun 0 ann | ask 2 tart 0 ann")
        for thing in ANY_THINGS + ("0", "1", 2, 3, -2, (0,), [0], [1], (), deep(20, 0), (0, 1), "bun", "asked"):
            if thing in (0, 1) and not isinstance(thing, bool):
                continue
            for look in (table_of, history):
                with self.assertRaises(NoDish) as caught:
                    look(HOUSE, pages, thing)
                self.assertIs(caught.exception.dish, thing)
        for dish in (0, 1):
            self.assertEqual(table_of(HOUSE, pages, dish), "one")
            self.assertEqual(len(history(HOUSE, pages, dish)), 1)

    def test_an_empty_book(self):
        for look in (idle, sitting, dishes):
            self.assertEqual(look(HOUSE, ()), ())
        self.assertEqual(dishes(HOUSE, (), "asked"), ())
        for look in (table_of, history):
            with self.assertRaises(NoDish) as caught:
                look(HOUSE, (), 0)
            self.assertEqual(caught.exception.dish, 0)


if __name__ == "__main__":
    unittest.main()
