"""[29], [30], [32], of [33] and [34] what speaks of these: turns and firings."""

import copy
import random
import unittest

from tablebills.books import book_of, until
from tablebills.turns import barred, firings, may_fire
from tablebills.walking import dishes, history, idle, table_of
from tests.chances import BOOKS, EACH
from tests.walks import HOUSE, TABLES, book, words_of

TWO = "sit ann one | sit bob one"
ASKED = TWO + " | ask 3 bun 0 ann | ask 1 bun 0 bob | ask 2 ham 1 ann bob | ask 0 ham 2 ann"


def is_done(pages, *deed):
    """Whether this DEED, told next, isn't IDLE."""
    return (10 ** 6, 0) not in dict(idle(HOUSE, pages + (((10 ** 6, 0), deed),)))


class Checks(unittest.TestCase):
    def bars(self, wanted, text, *where):
        self.assertEqual(barred(HOUSE, book(text), *where), wanted, (text, where))

    def may(self, wanted, text, table="one", course=0):
        self.assertIs(may_fire(HOUSE, book(text), table, course), wanted, (text, table, course))
        self.assertEqual(is_done(book(text), "fire", table, course), wanted)


class TestBarred(Checks):
    def test_lesser_courses(self):
        self.bars((), ASKED, "one", 0)
        self.bars((1, 3), ASKED, "one", 1)
        self.bars((1, 2, 3), ASKED, "one", 2)
        self.bars((0, 1, 2, 3), ASKED, "one", 3)
        self.bars((0, 1, 2, 3), ASKED, "one", 10 ** 30)

    def test_course_not_handed_in(self):
        self.bars((), ASKED, "one")
        self.assertIs(may_fire(HOUSE, book(ASKED), "one"), True)
        self.assertIs(may_fire(HOUSE, book(TWO + " | ask 0 bun 1 ann"), "one"), False)
        self.assertIs(may_fire(HOUSE, book(TWO + " | ask 0 bun 1 ann"), "one", 1), True)

    def test_by_names(self):
        pages = book(ASKED)
        self.assertEqual(barred(course=2, table="one", book=pages, house=HOUSE), (1, 2, 3))
        self.assertIs(may_fire(course=2, table="one", book=pages, house=HOUSE), False)
        self.assertIs(may_fire(table="one", book=pages, house=HOUSE), True)
        self.assertEqual(barred(table="one", book=pages, house=HOUSE), ())
        self.assertEqual(firings(book=pages, house=HOUSE), ())

    def test_where_nobody_sits(self):
        for table in ("two", "strange", "z", "ann"):
            for course in (0, 1, 9, 10 ** 12):
                self.bars((), ASKED, table, course)
                self.may(False, ASKED, table, course)

    def test_an_empty_book(self):
        self.bars((), "", "one")
        self.bars((), "", "one", 5)
        self.may(False, "")
        self.may(False, "", "one", 5)
        self.assertEqual(firings(HOUSE, ()), ())

    def test_each_state(self):
        asked = TWO + " | ask 0 bun 0 ann | ask 1 ham 1 bob"
        for more, wanted in (("", (0,)), (" | fire one 0", (0,)), (" | rush one 0", (0,)),
                             (" | fire one 0 | serve 0", ()), (" | fire one 0 | serve 0 | back 0", ()),
                             (" | strike 0", ()), (" | fire one 0 | strike 0", ()), (" | change 0 ham", (0,))):
            self.bars(wanted, asked + more, "one", 1)
            self.bars((), asked + more, "one", 0)
            self.may(wanted == (), asked + more, "one", 1)

    def test_of_seats_that_moved(self):
        moved = ASKED + " | move ann two"
        # The DISH of both is where the first of them sits.
        self.bars((1,), moved, "one", 3)
        self.bars((0, 2, 3), moved, "two", 3)
        self.bars((3,), moved, "two", 1)

    def test_of_seats_that_joined(self):
        apart = TWO + " | move bob two | ask 0 bun 0 ann | ask 1 bun 1 bob"
        self.bars((), apart, "two", 1)
        self.may(True, apart, "two", 1)
        self.bars((0,), apart + " | join two one", "two", 1)
        self.may(False, apart + " | join two one", "two", 1)
        self.may(False, apart + " | join two one", "one", 0)
        self.may(True, apart + " | join two one", "two", 0)

    def test_of_seats_that_are_gone(self):
        text = TWO + " | ask 0 water 0 ann | ask 1 bun 1 bob"
        self.bars((0,), text, "one", 1)
        gone = text + " | go ann"
        self.bars((), gone, "one", 1)
        self.may(True, gone, "one", 1)
        self.may(False, gone, "one", 0)
        self.bars((0,), gone + " | sit ann one", "one", 1)
        self.bars((), gone + " | sit ann two", "one", 1)
        self.bars((0,), gone + " | sit ann two", "two", 1)

    def test_of_one_seat_gone_of_two(self):
        text = TWO + " | move bob two | join one two | ask 0 water 0 ann bob | move bob two | ask 1 ham 1 bob"
        self.bars((0,), text, "one", 1)
        self.bars((), text, "two", 1)
        self.bars((), text + " | go ann", "one", 1)
        self.bars((0,), text + " | go ann", "two", 1)


class TestMayFire(Checks):
    def test_some_asked_and_none_bars(self):
        self.may(True, ASKED)
        self.may(False, ASKED, "one", 1)
        self.may(False, ASKED, "one", 3)
        self.may(False, ASKED + " | fire one 0")
        self.may(False, ASKED + " | fire one 0", "one", 1)
        self.may(True, ASKED + " | fire one 0 | serve 1 | serve 3", "one", 1)
        self.may(False, ASKED + " | strike 1 | strike 3")
        self.may(True, ASKED + " | strike 1 | strike 3", "one", 1)
        self.may(False, TWO)
        # What stands beside it, or in a greater course, doesn't bar.
        self.may(True, ASKED + " | fire one 0 | ask 4 bun 0 ann")
        self.may(True, ASKED + " | rush one 2")

    def test_just_where_a_fire_is_done(self):
        told = set()
        for pages in BOOKS[:25]:
            for many in range(0, len(pages) + 1, 4):
                for table in TABLES + ("four",):
                    for course in range(4):
                        may = may_fire(HOUSE, pages[:many], table, course)
                        self.assertIs(may, is_done(pages[:many], "fire", table, course))
                        told.add(may)
        self.assertEqual(told, {True, False})

    def test_against_the_words(self):
        for pages, words in EACH[:40]:
            for table in TABLES:
                for course in (0, 1, 2, 9):
                    bars = words.barring(table, course)
                    self.assertEqual(barred(HOUSE, pages, table, course), bars)
                    self.assertIs(may_fire(HOUSE, pages, table, course), words.at(table, course) != () and bars == ())


class TestFirings(Checks):
    def test_a_fire(self):
        self.assertEqual(firings(HOUSE, book(ASKED + " | fire one 0")), (((6, 0), "fire", "one", 0, (1, 3), ()),))

    def test_a_rush(self):
        for course, fired, bars in ((0, (1, 3), ()), (1, (2,), (1, 3)), (2, (0,), (1, 2, 3))):
            self.assertEqual(firings(HOUSE, book(f"{ASKED} | rush one {course}")),
                             (((6, 0), "rush", "one", course, fired, bars),))

    def test_what_bars_is_of_just_ahead(self):
        # The DISHES that were FIRED by a rush bar no less than the ASKED ones.
        pages = book(ASKED + " | rush one 1 | rush one 2 | fire one 0 | serve 1 | strike 2")
        self.assertEqual(firings(HOUSE, pages), (((6, 0), "rush", "one", 1, (2,), (1, 3)),
                                                 ((7, 0), "rush", "one", 2, (0,), (1, 2, 3)),
                                                 ((8, 0), "fire", "one", 0, (1, 3), ())))

    def test_in_order_of_pages(self):
        pages = (((5, 1), ("sit", "ann", "one")), ((5, 2), ("ask", 7, "bun", 3, ("ann",))),
                 ((5, 3), ("ask", 8, "bun", 1, ("ann",))), ((5, 9), ("rush", "one", 3)),
                 ((5, 10), ("fire", "one", 1)), ((6, 0), ("ask", 9, "ham", 1, ("ann",))), ((6, 1), ("fire", "one", 1)))
        self.assertEqual(firings(HOUSE, pages), (((5, 9), "rush", "one", 3, (7,), (8,)),
                                                 ((5, 10), "fire", "one", 1, (8,), ()),
                                                 ((6, 1), "fire", "one", 1, (9,), ())))

    def test_idle_ones_have_no_row(self):
        for more in ("fire two 0", "fire one 1", "rush two 0", "rush one 7", "fire one 7"):
            self.assertEqual(firings(HOUSE, book(f"{ASKED} | {more}")), ())
            self.assertEqual(len(firings(HOUSE, book(f"{ASKED} | fire one 0 | {more}"))), 1)

    def test_whatever_becomes_of_the_dishes(self):
        pages = book(ASKED + " | fire one 0")
        told = firings(HOUSE, pages)
        for more in ("serve 1", "strike 3", "serve 1 | back 1", "move ann two", "join two one", "ask 9 bun 0 ann"):
            self.assertEqual(firings(HOUSE, pages + book(more, 50)), told)

    def test_of_two_tables(self):
        pages = book(TWO + " | move bob two | ask 0 bun 0 ann | ask 1 bun 0 bob | fire two 0 | fire one 0")
        self.assertEqual(firings(HOUSE, pages), (((5, 0), "fire", "two", 0, (1,), ()),
                                                 ((6, 0), "fire", "one", 0, (0,), ())))

    def test_against_the_words(self):
        seen = set()
        for pages, words in EACH:
            self.assertEqual(firings(HOUSE, pages), tuple(words.firings))
            seen |= {(row[1], row[5] == ()) for row in words.firings}
        self.assertEqual(seen, {("fire", True), ("rush", True), ("rush", False)})


class TestSo(unittest.TestCase):
    def test_each_dish_in_one_row_where_it_was_fired(self):
        """[32]"""
        for pages in BOOKS:
            fired = [dish for row in firings(HOUSE, pages) for dish in row[4]]
            self.assertEqual(len(fired), len(set(fired)))
            for dish in [row[0] for row in dishes(HOUSE, pages)]:
                names = [name for name, word in history(HOUSE, pages, dish) if word == "fired"]
                self.assertEqual([row[0] for row in firings(HOUSE, pages) if dish in row[4]], names)

    def test_none_is_fired_ahead_of_its_turn_but_by_rush(self):
        """[32]"""
        for pages in BOOKS[:40]:
            for name, word, table, course, fired, bars in firings(HOUSE, pages):
                ahead = tuple(page for page in pages if page[0] < name)
                lesser = tuple(row[0] for row in dishes(HOUSE, ahead) if row[3] < course
                               and row[1] in ("asked", "fired") and table_of(HOUSE, ahead, row[0]) == table)
                self.assertEqual(bars, lesser)
                self.assertEqual(barred(HOUSE, ahead, table, course), lesser)
                if word == "fire":
                    self.assertEqual(lesser, ())

    def test_behind_a_fire_one_may_come_there(self):
        """[32]"""
        text = "sit ann one | sit bob two | ask 0 bun 0 ann | ask 1 ham 1 bob | fire two 1 | join two one"
        pages = book(text)
        self.assertEqual(firings(HOUSE, pages), (((4, 0), "fire", "two", 1, (1,), ()),))
        self.assertEqual(barred(HOUSE, pages, "two", 1), (0,))

    def test_the_set_of_pages_alone_goes(self):
        """[34]"""
        for at, pages in enumerate(BOOKS[:30]):
            mixed = list(pages + pages[::3])
            random.Random(at).shuffle(mixed)
            self.assertEqual(firings(HOUSE, book_of(tuple(mixed))), firings(HOUSE, pages))

    def test_idle_pages_may_be_left_out(self):
        """[34]"""
        for pages in BOOKS[:60]:
            names = dict(idle(HOUSE, pages))
            fewer = tuple(page for page in pages if page[0] not in names)
            self.assertEqual(firings(HOUSE, fewer), firings(HOUSE, pages))
            for table in TABLES:
                for course in range(4):
                    self.assertEqual(barred(HOUSE, fewer, table, course), barred(HOUSE, pages, table, course))
                    self.assertEqual(may_fire(HOUSE, fewer, table, course), may_fire(HOUSE, pages, table, course))

    def test_up_to_a_minute(self):
        """[34]"""
        for pages in BOOKS[:30]:
            for minute in {page[0][0] for page in pages}:
                self.assertEqual(firings(HOUSE, until(pages, minute)),
                                 tuple(row for row in firings(HOUSE, pages) if row[0][0] <= minute))

    def test_who_goes_takes_no_dish_away(self):
        """[33]"""
        pages = book(TWO + " | ask 0 water 0 ann | fire one 0")
        self.assertEqual(firings(HOUSE, pages + book("go ann", 20)), firings(HOUSE, pages))

    def test_what_is_told_may_be_handed_in(self):
        """[35]"""
        for pages in BOOKS[:20]:
            for name, word, table, course, fired, bars in firings(HOUSE, pages):
                self.assertIn(table, TABLES)
                self.assertEqual(dict(pages)[name], (word, table, course))
                for dish in fired + bars:
                    self.assertEqual(history(HOUSE, pages, dish)[0][1], "asked")
                self.assertIsInstance(barred(HOUSE, pages, table, course), tuple)

    def test_nothing_is_changed_and_nothing_hangs_on_what_was_asked(self):
        """[2]"""
        house, books = copy.deepcopy(HOUSE), copy.deepcopy(BOOKS[:20])

        def told(pages):
            return firings(house, pages), barred(house, pages, "one", 2), may_fire(house, pages, "one", 1)

        first = [told(pages) for pages in books]
        self.assertEqual([told(pages) for pages in reversed(books)][::-1], first)
        self.assertEqual((house, books), (HOUSE, BOOKS[:20]))

    def test_beyond_the_bounds(self):
        """[6]"""
        seats = tuple(first + second for first in "abcde" for second in "abcde")
        pages = [((0, at), ("sit", seat, "one")) for at, seat in enumerate(seats)]
        pages += [((10 ** 6, at), ("ask", 10 ** 30 - at, "soup", 10 ** 20 + at % 2, seats)) for at in range(60)]
        pages += [((10 ** 7, 10 ** 5), ("rush", "one", 10 ** 20 + 1))]
        rows = firings(HOUSE, tuple(pages))
        self.assertEqual(rows, tuple(words_of(HOUSE, pages).firings))
        self.assertEqual((len(rows[0][4]), len(rows[0][5])), (30, 30))
        self.assertEqual(barred(HOUSE, tuple(pages), "one", 10 ** 20 + 1), rows[0][5])


if __name__ == "__main__":
    unittest.main()
