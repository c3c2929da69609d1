"""[3], [24], [25] BOOKS."""

import itertools
import unittest

from tablebills.books import book_of, is_book, until
from tablebills.errors import NoPage
from tests.samples import ANY_THINGS, DEEDS

BOOK = tuple(((600 + at // 3, at), deed) for at, (deed, text) in enumerate(DEEDS))
SIT = ((600, 1), ("sit", "ann", "one"))
GO = ((600, 2), ("go", "ann"))
LATER = ((601, 0), ("sit", "ann", "two"))


class TestLook(unittest.TestCase):
    def test_right_ones(self):
        for book in ((), (SIT,), (SIT, GO), (SIT, GO, LATER), BOOK,
                     (((0, 0), ("go", "a")), ((0, 1), ("go", "a")), ((1, 0), ("go", "a"))),
                     (((9, 5), ("go", "a")), ((10, 4), ("go", "a")), ((100, 0), ("go", "a"))),
                     (((1, 10 ** 199), ("go", "a")), ((10 ** 199, 0), ("go", "a")))):
            self.assertIs(is_book(book), True, book)

    def test_the_deeds_need_not_rise(self):
        self.assertIs(is_book((((1, 0), ("sit", "z", "z")), ((1, 1), ("ask", 0, "tea", 0, ("a",))))), True)

    def test_beyond_the_bounds(self):
        self.assertIs(is_book(tuple(((at, 1000), ("go", "ann")) for at in range(300))), True)

    def test_two_exchanged(self):
        for book in ((GO, SIT), (LATER, GO), (SIT, LATER, GO), (GO, SIT, LATER)):
            self.assertIs(is_book(book), False, book)
        for at in range(len(BOOK) - 1):
            book = BOOK[:at] + (BOOK[at + 1], BOOK[at]) + BOOK[at + 2:]
            self.assertIs(is_book(book), False, at)

    def test_one_twice(self):
        for book in ((SIT, SIT), (SIT, GO, GO), (SIT, SIT, GO), (SIT, GO, SIT)):
            self.assertIs(is_book(book), False, book)

    def test_unlike_ones_of_one_name(self):
        for book in ((SIT, (SIT[0], ("go", "ann"))), ((SIT[0], ("go", "ann")), SIT)):
            self.assertIs(is_book(book), False, book)

    def test_a_list(self):
        for book in ([], [SIT], [SIT, GO], (list(SIT),), ([SIT, GO],)):
            self.assertIs(is_book(book), False, book)

    def test_a_page_that_is_none(self):
        for page in (None, True, 0, "600.1 go ann", (), (600, 1), ("go", "ann"), list(GO), ((600, 2), ["go", "ann"]),
                     ((True, 2), ("go", "ann")), ((600, -1), ("go", "ann")), ((600,), ("go", "ann")),
                     ((600, 2), ("gone", "ann")), ((600, 2), ("go", "Ann")), GO + (1,)):
            self.assertIs(is_book((page,)), False, page)
            self.assertIs(is_book((SIT, page)), False, page)
            self.assertIs(is_book((page, LATER)), False, page)
            self.assertIs(is_book((SIT, page, LATER)), False, page)

    def test_any_thing(self):
        for thing in ANY_THINGS + (SIT,):
            self.assertIs(is_book(thing), False, thing)
        self.assertIs(is_book(thing=()), True)
        self.assertIs(is_book(thing=(SIT, GO)), True)


class TestBookOf(unittest.TestCase):
    def test_in_any_order(self):
        for pages in itertools.permutations((SIT, GO, LATER)):
            self.assertEqual(book_of(pages), (SIT, GO, LATER))
        self.assertEqual(book_of(BOOK[::-1]), BOOK)
        self.assertEqual(book_of(BOOK[5:] + BOOK[:5]), BOOK)
        self.assertEqual(book_of(BOOK), BOOK)

    def test_some_several_times(self):
        for pages in itertools.product((SIT, GO), repeat=4):
            self.assertEqual(book_of(pages), tuple(page for page in (SIT, GO) if page in pages))
        self.assertEqual(book_of(BOOK + BOOK[::-1] + BOOK[3:6]), BOOK)

    def test_none(self):
        self.assertEqual(book_of(()), ())

    def test_names_rise_as_numbers(self):
        pages = tuple(((minute, number), ("go", "a")) for minute in (100, 9, 10) for number in (2, 10, 1))
        self.assertEqual([page[0] for page in book_of(pages)],
                         [(9, 1), (9, 2), (9, 10), (10, 1), (10, 2), (10, 10), (100, 1), (100, 2), (100, 10)])

    def test_unlike_ones_of_one_name(self):
        for deed in (("sit", "ann", "two"), ("sit", "bob", "one"), ("move", "ann", "one"), ("go", "ann")):
            unlike = (SIT[0], deed)
            for pages in itertools.permutations((SIT, unlike, LATER)):
                self.refused(pages)
            for pages in ((SIT, unlike), (unlike, SIT), (SIT, SIT, unlike), (SIT, unlike, SIT), (GO, SIT, unlike, SIT)):
                self.refused(pages)

    def refused(self, pages):
        with self.assertRaises(NoPage) as caught:
            book_of(pages)
        self.assertEqual(caught.exception.word, "twice")

    def test_like_deeds_of_unlike_names(self):
        pages = (((1, 2), ("go", "a")), ((1, 1), ("go", "a")), ((2, 1), ("go", "a")))
        self.assertEqual(book_of(pages), (pages[1], pages[0], pages[2]))

    def test_forty_and_more(self):
        for many in (40, 41, 100):
            book = tuple(((at, at % 7), ("pay", "ann", at + 1)) for at in range(many))
            self.assertEqual(book_of(book[1::2] + book[::-2] + book[::2] + book), book)
            self.refused(book + ((book[-1][0], ("go", "ann")),))

    def test_told_is_a_book(self):
        told = book_of(pages=BOOK[::-1])
        self.assertIs(is_book(told), True)
        self.assertEqual(book_of(told), told)


class TestUntil(unittest.TestCase):
    def test_each_minute(self):
        self.assertEqual(until(BOOK, 600), BOOK[:3])
        self.assertEqual(until(BOOK, 601), BOOK[:6])
        self.assertEqual(until(BOOK, 602), BOOK[:9])

    def test_ahead_of_all(self):
        for minute in (599, 1, 0):
            self.assertEqual(until(BOOK, minute), ())

    def test_below_nought(self):
        for minute in (-1, -600, -(10 ** 199)):
            self.assertEqual(until(BOOK, minute), ())
        self.assertEqual(until((((0, 0), ("go", "a")),), -1), ())
        self.assertEqual(until((((0, 0), ("go", "a")),), 0), (((0, 0), ("go", "a")),))

    def test_behind_all(self):
        for minute in (604, 605, 99999, 10 ** 199):
            self.assertEqual(until(BOOK, minute), BOOK)

    def test_between(self):
        self.assertEqual(until((SIT, ((700, 0), ("go", "ann"))), 650), (SIT,))
        self.assertEqual(until((SIT, ((700, 0), ("go", "ann"))), 699), (SIT,))
        self.assertEqual(until((SIT, ((700, 0), ("go", "ann"))), 700), (SIT, ((700, 0), ("go", "ann"))))

    def test_the_minute_alone_goes(self):
        book = (((5, 999), ("go", "a")), ((6, 0), ("go", "a")))
        self.assertEqual(until(book, 5), book[:1])
        self.assertEqual(until(book, 6), book)

    def test_no_pages_and_by_names(self):
        self.assertEqual(until((), 5), ())
        self.assertEqual(until(minute=601, book=BOOK), BOOK[:6])


if __name__ == "__main__":
    unittest.main()
