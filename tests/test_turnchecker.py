"""[31], with the FIRINGS of [30]: the checker of FIRINGS."""

import copy
import unittest

from tablebills.errors import NoPaper
from tablebills.turnchecker import lets_turns
from tablebills.turns import firings
from tests.chances import BOOKS, EACH
from tests.samples import ANY_THINGS, deep, swapped
from tests.walks import HOUSE, book

PAGES = book("sit ann one | sit bob one | ask 3 bun 0 ann | ask 1 bun 0 bob | ask 2 ham 1 ann bob | ask 0 ham 2 ann"
             " | rush one 2 | fire one 0 | serve 3 | rush one 1")
FIRINGS = (((6, 0), "rush", "one", 2, (0,), (1, 2, 3)), ((7, 0), "fire", "one", 0, (1, 3), ()),
           ((9, 0), "rush", "one", 1, (2,), (1,)))
# A row by kind alone, of no firing here.
STRANGE = ((0, 0), "", "z", -5, (-2, 7), ())


class Checks(unittest.TestCase):
    def refused(self, word, at, thing, pages=PAGES):
        with self.assertRaises(NoPaper) as caught:
            lets_turns(HOUSE, pages, thing)
        self.assertEqual((caught.exception.word, caught.exception.at), (word, at), thing)

    def other(self, row, place, part):
        """The FIRINGS with another part in this place of this row."""
        return swapped(FIRINGS, row, swapped(FIRINGS[row], place, part))


class TestLetBy(Checks):
    def test_by_hand(self):
        self.assertEqual(firings(HOUSE, PAGES), FIRINGS)
        # DISHES in barring aren't counted.
        self.assertEqual(lets_turns(HOUSE, PAGES, FIRINGS), 4)
        self.assertEqual(lets_turns(HOUSE, (), ()), 0)
        self.assertEqual(lets_turns(HOUSE, PAGES[:6], ()), 0)
        self.assertEqual(lets_turns(HOUSE, PAGES[:7], FIRINGS[:1]), 1)

    def test_by_names(self):
        self.assertEqual(lets_turns(thing=FIRINGS, book=PAGES, house=HOUSE), 4)
        with self.assertRaises(NoPaper):
            lets_turns(thing=(), book=PAGES, house=HOUSE)

    def test_what_firings_tells(self):
        """[35]"""
        for pages, words in EACH:
            fired = [dish for row in words.firings for dish in row[4]]
            self.assertEqual(lets_turns(HOUSE, pages, firings(HOUSE, pages)), len(fired))
            self.assertEqual(lets_turns(HOUSE, pages, tuple(words.firings)), len(fired))


class TestShape(Checks):
    def test_no_tuple(self):
        for thing in (None, True, False, 0, 4, "", "abc", [], list(FIRINGS), [()]):
            self.refused("shape", -1, thing)
            self.refused("shape", -1, thing, ())


class TestRow(Checks):
    def test_no_tuple_of_six(self):
        for row in (None, True, 6, "", "abcdef", (), [], list(FIRINGS[0]), FIRINGS[0][:5], FIRINGS[0] + (0,),
                    (FIRINGS[0],), [FIRINGS[0]], deep(20)):
            for at in range(3):
                self.refused("row", at, swapped(FIRINGS, at, row))

    def test_no_name(self):
        for name in (None, True, 6, "6.0", "", (), (6,), (6, 0, 0), [6, 0], (-1, 0), (6, -1), (True, 0), (6, False),
                     ("6", 0), (6, None), ((6, 0),), ([6], 0)):
            self.refused("row", 0, self.other(0, 0, name))

    def test_no_text(self):
        for word in (None, True, 0, (), [], ("rush",), ["rush"]):
            self.refused("row", 0, self.other(0, 1, word))

    def test_no_word(self):
        for table in (None, True, 0, "", "One", "one ", "abcdefghi", "a1", (), ("one",), ["one"]):
            self.refused("row", 0, self.other(0, 2, table))

    def test_no_number(self):
        for course in (None, True, False, "2", "", (), (2,), [2]):
            self.refused("row", 0, self.other(0, 3, course))
        # True is no 1.
        self.refused("row", 2, self.other(2, 3, True))
        self.refused("row", 1, self.other(1, 3, False))

    def test_no_rising_numbers(self):
        for place in (4, 5):
            for numbers in (None, True, 0, "", [], [0], (None,), (True,), (0, True), (False,), ("0",), ((0,),), ([0],),
                            (1, 0), (0, 0), (0, 1, 1), (2, 1, 3), (0, "1"), (0, None, 1), {0}):
                self.refused("row", 0, self.other(0, place, numbers))
        self.refused("row", 2, self.other(2, 4, [2]))
        self.refused("row", 2, self.other(2, 5, (True,)))

    def test_by_kind_alone(self):
        for at in range(3):
            self.refused("page", at, swapped(FIRINGS, at, STRANGE))
        self.refused("more", 3, FIRINGS + (STRANGE,))
        for name in ((0, 0), (10 ** 199, 0), (6, 10 ** 199)):
            self.refused("page", 0, self.other(0, 0, name))
        for word in ("", "fire", "RUSH", "rush ", "x" * 4000):
            self.refused("page", 0, self.other(0, 1, word))
        for course in (-1, -(10 ** 199), 10 ** 199, 0):
            self.refused("page", 0, self.other(0, 3, course))
        for numbers in ((), (-5,), (-5, 0), (10 ** 199,)):
            self.refused("dishes", 0, self.other(0, 4, numbers))
            self.refused("barring", 0, self.other(0, 5, numbers))


class TestLike(Checks):
    def test_more(self):
        self.refused("more", 3, FIRINGS + (FIRINGS[2],))
        self.refused("more", 3, FIRINGS + (FIRINGS[2], None))
        self.refused("more", 0, FIRINGS, ())
        self.refused("more", 1, FIRINGS, PAGES[:7])
        # Its kind is asked first.
        self.refused("row", 3, FIRINGS + (None,))
        self.refused("row", 0, (None,), ())

    def test_page(self):
        for at in range(3):
            for place, part in ((0, (6, 1)), (0, (5, 0)), (1, "back"), (2, "two"), (3, 5)):
                self.refused("page", at, self.other(at, place, part))
        # The others' rows, and the other way about.
        self.refused("page", 0, FIRINGS[::-1])
        self.refused("page", 0, FIRINGS[1:])
        self.refused("page", 1, (FIRINGS[0], FIRINGS[0]))
        self.refused("page", 1, self.other(1, 1, "rush"))

    def test_dishes(self):
        for at, numbers in ((0, ()), (0, (1,)), (0, (0, 1)), (1, (1,)), (1, (3,)), (1, (0, 1, 3)), (2, (0,)), (2, ())):
            self.refused("dishes", at, self.other(at, 4, numbers))

    def test_barring(self):
        for at, numbers in ((0, ()), (0, (1, 2)), (0, (0, 1, 2, 3)), (1, (1,)), (1, (3,)), (2, ()), (2, (3,)), (2, (1, 3))):
            self.refused("barring", at, self.other(at, 5, numbers))

    def test_few(self):
        for many in range(3):
            self.refused("few", many, FIRINGS[:many])
        self.refused("few", 0, (), PAGES[:7])


class TestTheFirstGoes(Checks):
    def test_of_one_row(self):
        faults = ((0, 0, None), (0, 2, "two"), (0, 4, (5,)), (0, 5, (5,)))
        words = ("row", "page", "dishes", "barring")
        for first in range(4):
            for second in range(first + 1, 4):
                row = FIRINGS[0]
                for at, place, part in (faults[first], faults[second]):
                    row = swapped(row, place, part)
                self.refused(words[first], 0, swapped(FIRINGS, 0, row))

    def test_row_by_row(self):
        """A later fault of an earlier row goes ahead of an earlier fault of a later row."""
        for place, part, word in ((5, (5,), "barring"), (4, (5,), "dishes"), (2, "two", "page"), (2, 2, "row")):
            for fault in (None, STRANGE, swapped(FIRINGS[1], 4, (8,))):
                self.refused(word, 0, swapped(self.other(0, place, part), 1, fault))
        self.refused("barring", 1, swapped(self.other(1, 5, (5,)), 2, None))

    def test_rows_ahead_of_few(self):
        self.refused("barring", 0, self.other(0, 5, ())[:1])
        self.refused("row", 0, (None,))
        self.refused("row", 1, (FIRINGS[0], None))
        self.refused("more", 3, FIRINGS + (STRANGE, None))


class TestAnyThing(Checks):
    def test_in_each_place(self):
        for thing in ANY_THINGS:
            self.refused("row" if isinstance(thing, tuple) and thing else "shape", 0 if isinstance(thing, tuple) else -1,
                         thing)
            self.refused("row", 1, swapped(FIRINGS, 1, thing))
            words = {0: "page", 1: "page", 2: "page", 3: "page", 4: "dishes", 5: "barring"}
            for place, word in words.items():
                if thing == FIRINGS[0][place]:
                    continue
                with self.assertRaises(NoPaper) as caught:
                    lets_turns(HOUSE, PAGES, self.other(0, place, thing))
                self.assertIn((caught.exception.word, caught.exception.at), (("row", 0), (word, 0)))

    def test_nothing_is_changed_and_nothing_hangs_on_what_was_asked(self):
        """[2]"""
        house, books, things = copy.deepcopy(HOUSE), copy.deepcopy(BOOKS[:20]), copy.deepcopy(ANY_THINGS)
        first = [lets_turns(house, pages, firings(house, pages)) for pages in books]
        for thing in things:
            self.assertRaises(NoPaper, lets_turns, house, PAGES, (thing,))
        self.assertEqual([lets_turns(house, pages, firings(house, pages)) for pages in books], first)
        self.assertEqual((house, books, things), (HOUSE, BOOKS[:20], ANY_THINGS))

    def test_any_other_is_refused(self):
        """What is let by is the FIRINGS, whoever wrote it."""
        for pages in BOOKS[:30]:
            rows = firings(HOUSE, pages)
            for at, row in enumerate(rows):
                fewer, twice = rows[:at] + rows[at + 1:], rows[:at] + rows[at:at + 1] + rows[at:]
                for other in (fewer, twice, swapped(rows, at, swapped(row, 4, row[4][1:])),
                              swapped(rows, at, swapped(row, 5, row[5] + (10 ** 6,)))):
                    self.assertRaises(NoPaper, lets_turns, HOUSE, pages, other)


if __name__ == "__main__":
    unittest.main()
