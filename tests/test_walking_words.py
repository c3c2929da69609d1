"""[4], [5], [26] to [28], [33], [34] The walk through many BOOKS, against the words."""

import copy
import random
import unittest

from tablebills.books import book_of, is_book, until
from tablebills.errors import NoDish
from tablebills.walking import dishes, history, idle, sitting, table_of
from tests.chances import BOOKS
from tests.walks import HOUSE, SEATS, TABLES, book, words_of

STATES = ("asked", "fired", "served", "back", "struck")

# Each reason of [4], by the DEEDS that have it.
REASONS = {
    "sit": ("here",), "move": ("gone",), "join": ("empty",), "go": ("gone", "owes"),
    "ask": ("known", "item", "gone", "apart"), "change": ("dish", "item"), "fire": ("empty", "turn"),
    "rush": ("empty",), "serve": ("dish",), "back": ("dish",), "strike": ("dish",), "pay": ("gone", "much"),
    "take": ("gone", "much"), "even": ("gone", "below"),
}


def told(house, pages):
    """All that the walk tells but the IDLE PAGES."""
    rows = dishes(house, pages)
    return (sitting(house, pages), rows, tuple(table_of(house, pages, row[0]) for row in rows),
            tuple(history(house, pages, row[0]) for row in rows))


def to_pay(house, pages, seat):
    """What the SEAT has TO PAY, by what it could pay next; "below" 0, or "gone" where it doesn't sit."""
    last = (10 ** 6, 0)

    def is_done(*deed):
        return last not in dict(idle(house, pages + ((last, deed),)))

    if dict(sitting(house, pages)).get(seat, "") == "":
        return "gone"
    if not is_done("pay", seat, 1):
        return 0 if is_done("go", seat) else "below"
    low, high = 1, 1024
    while high - low > 1:
        middle = (low + high) // 2
        low, high = (middle, high) if is_done("pay", seat, middle) else (low, middle)
    return low


class TestAgainstTheWords(unittest.TestCase):
    def test_all_deeds_and_reasons_come(self):
        seen = set()
        for pages in BOOKS:
            self.assertTrue(is_book(pages))
            deeds, reasons = dict(pages), dict(idle(HOUSE, pages))
            seen |= {(deeds[name][0], reasons.get(name)) for name in deeds}
        wanted = {(word, reason) for word in REASONS for reason in REASONS[word] + (None,)}
        self.assertEqual(seen, wanted)

    def test_what_is_told(self):
        for pages in BOOKS:
            words = words_of(HOUSE, pages)
            self.assertEqual(idle(HOUSE, pages), tuple(words.idle))
            self.assertEqual(sitting(HOUSE, pages), tuple(sorted(words.seated().items())))
            rows = tuple(sorted((row[0], words.state(row[0])) + row[1:] for row in words.asked()))
            self.assertEqual(dishes(HOUSE, pages), rows)
            for state in STATES:
                self.assertEqual(dishes(HOUSE, pages, state), tuple(row for row in rows if row[1] == state))
            for dish in range(10):
                if dish in [row[0] for row in rows]:
                    self.assertEqual(table_of(HOUSE, pages, dish), words.table(dish))
                    self.assertEqual(history(HOUSE, pages, dish), words.history(dish))
                else:
                    self.assertRaises(NoDish, table_of, HOUSE, pages, dish)
                    self.assertRaises(NoDish, history, HOUSE, pages, dish)

    def test_behind_each_page(self):
        for pages in BOOKS[:12]:
            for many in range(len(pages)):
                words = words_of(HOUSE, pages[:many])
                self.assertEqual(idle(HOUSE, pages[:many]), tuple(words.idle))
                self.assertEqual(sitting(HOUSE, pages[:many]), tuple(sorted(words.seated().items())))

    def test_what_is_to_pay(self):
        for pages in BOOKS[:30]:
            words = words_of(HOUSE, pages)
            for seat in SEATS:
                wanted = words.to_pay(seat) if words.to_pay(seat) >= 0 else "below"
                self.assertEqual(to_pay(HOUSE, pages, seat), wanted if words.seated().get(seat) else "gone")


class TestSo(unittest.TestCase):
    def test_histories(self):
        """[28], its last sentence."""
        for pages in BOOKS:
            for dish, state, *rest in dishes(HOUSE, pages):
                names = [name for name, word in history(HOUSE, pages, dish)]
                words = [word for name, word in history(HOUSE, pages, dish)]
                self.assertEqual(names, sorted(set(names)))
                self.assertEqual(words[0], "asked")
                changed = words.count("changed")
                self.assertEqual(words[1:1 + changed], ["changed"] * changed)
                self.assertIn(words[1 + changed:], ([], ["fired"], ["fired", "served"], ["fired", "served", "back"],
                                                    ["struck"], ["fired", "struck"]))
                self.assertEqual([word for word in words if word != "changed"][-1], state)

    def test_moves_and_joins_turn_tables_alone(self):
        """[33]"""
        for at, pages in enumerate(BOOKS[:20]):
            dice = random.Random(at)
            for number in range(4):
                deed = dice.choice((("move", dice.choice(SEATS), dice.choice(TABLES)),
                                    ("join",) + tuple(dice.sample(TABLES, 2))))
                moved = pages + (((10 ** 5, number), deed),)
                self.assertEqual(dishes(HOUSE, moved), dishes(HOUSE, pages))
                for seat in SEATS[:3]:
                    self.assertEqual(to_pay(HOUSE, moved, seat), to_pay(HOUSE, pages, seat))
                for row in dishes(HOUSE, pages):
                    self.assertEqual(history(HOUSE, moved, row[0]), history(HOUSE, pages, row[0]))

    def test_who_goes_takes_no_dish_away(self):
        """[33]"""
        pages = book("sit ann one | sit bob one | ask 0 ham 0 ann bob | ask 1 bun 1 ann | pay ann 14")
        gone = pages + book("go ann", 20)
        self.assertEqual(idle(HOUSE, gone), ())
        self.assertEqual(dishes(HOUSE, gone), dishes(HOUSE, pages))
        self.assertEqual(to_pay(HOUSE, gone, "bob"), 3)

    def test_the_set_of_pages_alone_goes(self):
        """[34]"""
        for at, pages in enumerate(BOOKS[:30]):
            mixed = list(pages + pages[5:20])
            random.Random(at).shuffle(mixed)
            self.assertEqual(told(HOUSE, book_of(tuple(mixed))), told(HOUSE, pages))
            self.assertEqual(idle(HOUSE, book_of(tuple(mixed))), idle(HOUSE, pages))

    def test_idle_pages_may_be_left_out(self):
        """[34]"""
        for at, pages in enumerate(BOOKS):
            names = [name for name, reason in idle(HOUSE, pages)]
            without = tuple(page for page in pages if page[0] not in names)
            self.assertEqual(told(HOUSE, without), told(HOUSE, pages))
            self.assertEqual(idle(HOUSE, without), ())
            one = random.Random(at).choice(names)
            self.assertEqual(idle(HOUSE, tuple(page for page in pages if page[0] != one)),
                             tuple(row for row in idle(HOUSE, pages) if row[0] != one))
            for seat in SEATS if at < 12 else ():
                self.assertEqual(to_pay(HOUSE, without, seat), to_pay(HOUSE, pages, seat))

    def test_what_is_told_up_to_a_minute(self):
        """[34]"""
        for pages in BOOKS[:30]:
            for minute in {page[0][0] for page in pages}:
                early = until(pages, minute)
                names = [page[0] for page in early]
                self.assertEqual(idle(HOUSE, early), tuple(row for row in idle(HOUSE, pages) if row[0] in names))
                for row in dishes(HOUSE, early):
                    self.assertEqual(history(HOUSE, early, row[0]),
                                     tuple(step for step in history(HOUSE, pages, row[0]) if step[0] in names))

    def test_nothing_is_changed_and_nothing_hangs_on_what_was_asked(self):
        """[2]"""
        house, pages = copy.deepcopy(HOUSE), copy.deepcopy(BOOKS[:20])
        first = [(idle(house, each), told(house, each)) for each in pages]
        second = [(idle(house, each), told(house, each)) for each in reversed(pages)]
        self.assertEqual(second[::-1], first)
        self.assertEqual((house, pages), (HOUSE, BOOKS[:20]))

    def test_beyond_the_bounds(self):
        seats = tuple(first + second for first in "abcde" for second in "abcde")
        pages = [((0, at), ("sit", seat, "one")) for at, seat in enumerate(seats)]
        pages += [((10 ** 6, at), ("ask", 10 ** 30 + at, "soup", 10 ** 20 + at % 2, seats)) for at in range(60)]
        pages += [((10 ** 7, 10 ** 5), ("fire", "one", 10 ** 20))]
        self.assertEqual(idle(HOUSE, tuple(pages)), ())
        rows = dishes(HOUSE, tuple(pages))
        self.assertEqual([row[1] for row in rows], ["fired", "asked"] * 30)
        self.assertEqual({row[5] for row in rows}, {500})


if __name__ == "__main__":
    unittest.main()
