"""[75], [76], [77] Other names and later minutes."""

import unittest

from tablebills.naming import house_later, renamed
from tablebills.paying import owes, sums, to_pay
from tablebills.walking import dishes, idle
from tests import walks
from tests.chances import BOOKS
from tests.samples import DEEDS, HOUSE

# The same DEEDS as in samples, ann and bob, one and two by newer names.
NAMES = (("ann", "dan"), ("bob", "eve"), ("one", "foo"), ("two", "goo"))
NEWER = (
    ("sit", "dan", "foo"), ("move", "dan", "goo"), ("join", "foo", "goo"), ("go", "dan"),
    ("ask", 3, "soup", 0, ("dan", "eve")), ("change", 3, "tea"), ("fire", "foo", 1), ("rush", "foo", 2),
    ("serve", 3), ("back", 4), ("strike", 0), ("pay", "dan", 450), ("take", "dan", "eve", 300),
    ("even", ("dan", "eve", "cy")),
)
BOOK = tuple(((600 + at, at), deed) for at, (deed, text) in enumerate(DEEDS))


class TestRenamed(unittest.TestCase):
    def test_each_deed(self):
        for (deed, text), newer in zip(DEEDS, NEWER):
            self.assertEqual(renamed((((5, 6), deed),), NAMES), (((5, 6), newer),))

    def test_a_whole_book(self):
        wanted = tuple(((607 + at, at), newer) for at, newer in enumerate(NEWER))
        self.assertEqual(renamed(BOOK, NAMES, 7), wanted)

    def test_no_book(self):
        self.assertEqual(renamed((), NAMES, 7), ())
        self.assertEqual(renamed(()), ())

    def test_items_and_words_of_deeds_stay(self):
        names = tuple((word, "z" + word[:7]) for word in sorted(
            ("ask", "sit", "move", "join", "go", "change", "fire", "rush", "serve", "back", "strike",
             "pay", "take", "even", "soup", "tea")))
        for deed, text in DEEDS:
            self.assertEqual(renamed((((1, 2), deed),), names), (((1, 2), deed),))
        self.assertEqual(renamed((((1, 2), ("sit", "sit", "sit")),), names), (((1, 2), ("sit", "zsit", "zsit")),))
        self.assertEqual(renamed((((1, 2), ("ask", 0, "ask", 1, ("ask",))),), names),
                         (((1, 2), ("ask", 0, "ask", 1, ("zask",))),))
        self.assertEqual(renamed((((1, 2), ("change", 0, "tea")),), names), (((1, 2), ("change", 0, "tea")),))

    def test_one_word_for_seat_and_table(self):
        book = (((1, 0), ("sit", "a", "a")), ((2, 0), ("even", ("a", "b"))), ((3, 0), ("fire", "a", 4)))
        self.assertEqual(renamed(book, (("a", "ab"),)),
                         (((1, 0), ("sit", "ab", "ab")), ((2, 0), ("even", ("ab", "b"))), ((3, 0), ("fire", "ab", 4))))

    def test_each_is_renamed_once(self):
        book = (((1, 0), ("take", "a", "b", 5)), ((1, 1), ("even", ("a", "b", "c"))), ((1, 2), ("join", "b", "a")))
        self.assertEqual(renamed(book, (("a", "b"), ("b", "c"), ("c", "d"))),
                         (((1, 0), ("take", "b", "c", 5)), ((1, 1), ("even", ("b", "c", "d"))),
                          ((1, 2), ("join", "c", "b"))))

    def test_others_stay(self):
        book = (((1, 0), ("take", "anna", "an", 5)), ((1, 1), ("sit", "bobby", "onex")))
        self.assertEqual(renamed(book, NAMES), book)

    def test_words_none_empty_or_not_handed_in(self):
        self.assertEqual(renamed(BOOK), BOOK)
        self.assertEqual(renamed(BOOK, None), BOOK)
        self.assertEqual(renamed(BOOK, ()), BOOK)
        self.assertEqual(renamed(BOOK, None, 0), BOOK)
        wanted = tuple(((minute + 3, number), deed) for (minute, number), deed in BOOK)
        self.assertEqual(renamed(BOOK, None, 3), wanted)
        self.assertEqual(renamed(BOOK, (), 3), wanted)
        self.assertEqual(renamed(BOOK, later=3), wanted)

    def test_later_far(self):
        self.assertEqual(renamed((((0, 7), ("pay", "ann", 9)),), NAMES, 99999), (((99999, 7), ("pay", "dan", 9)),))
        self.assertEqual(renamed((((99999, 999), ("serve", 99999)),), (), 10 ** 12),
                         (((10 ** 12 + 99999, 999), ("serve", 99999)),))

    def test_by_names(self):
        self.assertEqual(renamed(later=1, words=(("ann", "z"),), book=(((0, 0), ("go", "ann")),)),
                         (((1, 0), ("go", "z")),))

    def test_nothing_hangs_on_what_was_asked_ahead(self):
        renamed(BOOK, NAMES, 5)
        self.assertEqual(renamed(BOOK), BOOK)
        self.assertEqual(BOOK[0], ((600, 0), ("sit", "ann", "one")))


class TestHouseLater(unittest.TestCase):
    def test_by_hand(self):
        wanted = ((("soup", 10, ((0, 450), (907, 500))), ("tea", 2, ((0, 200),))),
                  ((("soup", "tea"), 607, 727, 50),), 40, 2)
        self.assertEqual(house_later(HOUSE, 7), wanted)

    def test_not_later(self):
        self.assertEqual(house_later(HOUSE), HOUSE)
        self.assertEqual(house_later(HOUSE, 0), HOUSE)

    def test_from_nought(self):
        menu = (("a", 0, ((0, 0), (1, 5), (2, 0))), ("b", 60, ((0, 9),)))
        offs = (((), 0, 0, 0), (("a", "b"), 0, 5, 100), (("b",), 8, 0, 7), (("b",), 8, 3, 7))
        wanted_menu = (("a", 0, ((0, 0), (11, 5), (12, 0))), ("b", 60, ((0, 9),)))
        wanted_offs = (((), 10, 10, 0), (("a", "b"), 10, 15, 100), (("b",), 18, 10, 7), (("b",), 18, 13, 7))
        self.assertEqual(house_later((menu, offs, 0, 1), 10), (wanted_menu, wanted_offs, 0, 1))

    def test_no_offs_and_far(self):
        house = ((("a", 3, ((0, 4), (5, 6))),), (), 120, 9)
        self.assertEqual(house_later(house, 10 ** 12), ((("a", 3, ((0, 4), (10 ** 12 + 5, 6))),), (), 120, 9))

    def test_by_names(self):
        self.assertEqual(house_later(later=0, house=HOUSE), HOUSE)
        self.assertEqual(house_later(house=HOUSE, later=7), house_later(HOUSE, 7))


class TestSo(unittest.TestCase):
    """[77]"""

    NAMES = (("ann", "bea"), ("bob", "bo"), ("cy", "dora"), ("dan", "eve"), ("one", "ten"), ("three", "tent"),
             ("two", "z"))
    # In their order among those that stay.
    FEWER = (("bob", "c"), ("one", "seven"))

    def look(self, pages, names, later):
        newer = dict(names)
        moved, house = renamed(pages, names, later), house_later(walks.HOUSE, later)
        self.assertEqual(idle(house, moved), tuple(((minute + later, number), reason)
                                                   for (minute, number), reason in idle(walks.HOUSE, pages)))
        told = to_pay(walks.HOUSE, pages)
        self.assertEqual(to_pay(house, moved), tuple((newer.get(seat, seat), pence) for seat, pence in told))
        for seat, pence in told:
            self.assertEqual(owes(house, moved, newer.get(seat, seat)), pence)
        self.assertEqual(sums(house, moved), sums(walks.HOUSE, pages))

    def test_the_same_is_idle_and_to_pay(self):
        for pages in BOOKS[:40]:
            for names, later in ((self.NAMES, 0), (self.NAMES, 7), (self.FEWER, 300), ((), 1), ((), 10 ** 6)):
                self.look(pages, names, later)

    def test_at_minutes_where_prices_and_offs_turn(self):
        text = "sit ann one | sit bob one | ask 0 soup 0 ann bob | ask 1 tea 0 bob | change 0 soup | pay ann 112"
        for first in (595, 596, 597, 598, 600, 715, 716, 717, 718, 896, 897, 898):
            self.look(walks.book(text, first), self.NAMES, 13)

    def test_up_to_a_minute(self):
        for pages in BOOKS[:10]:
            moved, house = renamed(pages, self.NAMES, 50), house_later(walks.HOUSE, 50)
            for minute in {page[0][0] for page in pages}:
                self.assertEqual([pence for seat, pence in to_pay(house, moved, minute + 50)],
                                 [pence for seat, pence in to_pay(walks.HOUSE, pages, minute)])

    def test_a_book_alone_is_another_one(self):
        pages = walks.book("sit ann one | ask 0 soup 0 ann", 590)
        self.assertEqual(dishes(walks.HOUSE, pages)[0][5], 450)
        self.assertEqual(dishes(walks.HOUSE, renamed(pages, (), 50))[0][5], 225)
        self.assertEqual(dishes(house_later(walks.HOUSE, 50), renamed(pages, (), 50))[0][5], 450)


if __name__ == "__main__":
    unittest.main()
