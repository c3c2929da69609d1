"""[83] What is read."""

import itertools
import re
import unittest

from tablebills.errors import NoText
from tablebills.lines import shown_house, shown_page, shown_pages
from tablebills.readings import read_house, read_page, read_pages
from tests.samples import DEEDS, HOUSE, HOUSE_TEXT

GREAT = 999999999999
NO_NUMBERS = ("00", "01", "007", "0000000000000", "1000000000000", "1234567890123", "-1", "+1", "-0", "a", "1a", "a1",
              "", "1.0", "1_0", "1,0", "0x1", "|", "-", ":", "9" * 4000)
NO_WORDS = ("Ann", "a1", "1", "abcdefghi", "", "an-n", "a.b", "|", "-", "ANN", "ann,", "_", "~", "a" * 4000)
HOUSES = (
    HOUSE,
    ((("item", 0, ((0, 0),)),), (), 0, 1),
    ((("tea", 2, ((0, 200),)),), (((), 5, 7, 100),), 3, 9),
    ((("tea", 2, ((0, 200),)),), ((("tea",), 9, 3, 0), ((), 0, 0, 1), (("bun", "soup"), 0, 9, 100)), 120, 2),
    ((("a", 60, ((0, 1), (1, 0), (600, 100000))), ("aa", 0, ((0, 5),)), ("b", 0, ((0, 5),))), (), 1, 1),
    ((("abcdefgh", GREAT, ((0, GREAT), (GREAT, GREAT))),), ((("zzzzzzzz",), GREAT, GREAT, 50),), GREAT, GREAT),
)


class Checks(unittest.TestCase):
    def refused(self, wanted, read, *told, **named):
        with self.assertRaises(NoText) as caught:
            read(*told, **named)
        self.assertEqual((caught.exception.line, caught.exception.word), wanted, (told, named))

    def no_page(self, word, text):
        self.refused((0, word), read_page, text)
        self.refused((0, word), read_pages, text)
        self.refused((7, word), read_page, text, 7)
        self.refused((1, word), read_pages, "640.0 go ann\n" + text + "\n")

    def no_house(self, word, text):
        self.refused((0, word), read_house, text)


class TestPages(Checks):
    def test_the_examples(self):
        self.assertEqual(read_page("605.1 ask 3 soup 0 ann bob"), ((605, 1), ("ask", 3, "soup", 0, ("ann", "bob"))))
        self.assertEqual(read_page("640.0 go ann"), ((640, 0), ("go", "ann")))
        self.assertEqual(read_page("641.2 take ann bob 300"), ((641, 2), ("take", "ann", "bob", 300)))

    def test_each_deed(self):
        for deed, text in DEEDS:
            for name in ((0, 0), (10, 100), (99999, 999), (GREAT, GREAT)):
                page = (name, deed)
                self.assertEqual(read_page(f"{name[0]}.{name[1]} {text}"), page)
                self.assertEqual(read_page(shown_page(page)), page)
                self.assertEqual(read_page(text=shown_page(page), line=3), page)
                self.assertEqual(read_page(shown_page(page), -5), page)

    def test_kinds(self):
        name, deed = read_page("605.1 ask 3 soup 0 ann bob")
        self.assertIsInstance(name, tuple)
        self.assertIsInstance(deed, tuple)
        self.assertIsInstance(deed[4], tuple)
        self.assertIsInstance(read_page("1.2 even a b"), tuple)

    def test_line(self):
        for line in (0, 1, -1, 39, 10 ** 199):
            self.refused((line, 1), read_page, "1.2 walk", line)
            self.refused((line, 2), read_page, line=line, text="1.2 go")
        self.refused((0, 2), read_page, text="1.2 go")

    def test_no_signs(self):
        self.refused((0, 0), read_page, "")
        self.refused((4, 0), read_page, "", 4)

    def test_names(self):
        for name in ("640", "640.", ".0", ".", "6.4.0", "6..0", "640.0.", ".640.0", "", "a.0", "0.a", "640:0", "640,0",
                     "-1.0", "1.-0", "640.0a", "go", "|"):
            self.no_page(0, name + " go ann")
        for number in NO_NUMBERS:
            self.no_page(0, number + ".0 go ann")
            self.no_page(0, "0." + number + " go ann")

    def test_deed_words(self):
        for word in ("", "Go", "goes", "g", "walk", "ann", "1", "seats", "seat", "g" * 4000):
            self.no_page(1, "640.0 " + word + " ann")
            self.no_page(1, "640.0 " + word)

    def test_each_place_broken_by_itself(self):
        for deed, text in DEEDS:
            words = ("640.0 " + text).split(" ")
            for at in range(2, len(words)):
                wrong = NO_NUMBERS if words[at].isdigit() else NO_WORDS
                for word in wrong:
                    self.no_page(at, " ".join(words[:at] + [word] + words[at + 1:]))
                    self.no_page(at, " ".join(words[:at] + [word]))

    def test_words_lacking(self):
        self.no_page(1, "640.0")
        for deed, text in DEEDS:
            words = ("640.0 " + text).split(" ")
            least = {"ask": 6, "even": 4}.get(deed[0], len(words))
            for many in range(1, least):
                self.no_page(many, " ".join(words[:many]))

    def test_words_too_many(self):
        for deed, text in DEEDS:
            words = ("640.0 " + text).split(" ")
            for more in ("", "ann", "1", "Zed"):
                self.no_page(len(words), " ".join(words + [more]))
            if deed[0] not in ("ask", "even"):
                self.no_page(len(words), " ".join(words + ["zed"]))
                self.no_page(len(words), " ".join(words + ["zed", "zed"]))

    def test_blanks(self):
        for deed, text in DEEDS:
            words = ("640.0 " + text).split(" ")
            self.no_page(0, " " + " ".join(words))
            self.no_page(len(words), " ".join(words) + " ")
            for at in range(1, len(words)):
                self.no_page(at, " ".join(words[:at] + [""] + words[at:]))
        self.no_page(0, " ")
        self.no_page(0, "  ")

    def test_pence(self):
        self.no_page(3, "1.2 pay ann 0")
        self.no_page(4, "1.2 take ann bob 0")
        self.assertEqual(read_page("1.2 pay ann 1"), ((1, 2), ("pay", "ann", 1)))
        self.assertEqual(read_page("1.2 take ann bob 1"), ((1, 2), ("take", "ann", "bob", 1)))
        self.assertEqual(read_page("1.2 pay ann 999999999999"), ((1, 2), ("pay", "ann", GREAT)))

    def test_alike(self):
        self.no_page(3, "1.2 join one one")
        self.no_page(3, "1.2 take ann ann 5")
        self.no_page(3, "1.2 take ann ann")
        self.assertEqual(read_page("1.2 sit ann ann"), ((1, 2), ("sit", "ann", "ann")))
        self.assertEqual(read_page("1.2 move ann ann"), ((1, 2), ("move", "ann", "ann")))
        self.assertEqual(read_page("1.2 join join take"), ((1, 2), ("join", "join", "take")))
        self.assertEqual(read_page("1.2 take take ask 5"), ((1, 2), ("take", "take", "ask", 5)))

    def test_seats_rise(self):
        self.no_page(6, "1.2 ask 3 soup 0 bob ann")
        self.no_page(6, "1.2 ask 3 soup 0 ann ann")
        self.no_page(7, "1.2 ask 3 soup 0 ann cy bob")
        self.no_page(7, "1.2 ask 3 soup 0 bob cy ann dan")
        self.no_page(3, "1.2 even bob ann")
        self.no_page(3, "1.2 even ann ann")
        self.no_page(4, "1.2 even ann bob bob")
        self.assertEqual(read_page("1.2 ask 3 soup 0 even"), ((1, 2), ("ask", 3, "soup", 0, ("even",))))
        self.assertEqual(read_page("1.2 ask 3 soup 0 a aa"), ((1, 2), ("ask", 3, "soup", 0, ("a", "aa"))))
        # A first SEAT stands below the ITEM and the word ahead of it all the same.
        self.assertEqual(read_page("1.2 even a b"), ((1, 2), ("even", ("a", "b"))))
        self.assertEqual(read_page("1.2 ask 9 z 9 a b"), ((1, 2), ("ask", 9, "z", 9, ("a", "b"))))

    def test_one_seat_of_even(self):
        self.no_page(3, "1.2 even ann")
        self.no_page(2, "1.2 even")

    def test_the_first_word_goes(self):
        self.no_page(0, "01.2 walk Ann")
        self.no_page(1, "1.2 walk Ann")
        self.no_page(2, "1.2 ask x Soup y")
        self.no_page(3, "1.2 ask 1 Soup y")
        self.no_page(2, "1.2 sit Ann one more")


class TestSeveralPages(Checks):
    PAGES = tuple(((at * 3, 5), deed) for at, (deed, text) in enumerate(DEEDS))

    def test_what_is_written(self):
        for pages in ((), self.PAGES[:1], self.PAGES, self.PAGES[::-1], self.PAGES[:2] * 3):
            self.assertEqual(read_pages(shown_pages(pages)), pages)
            self.assertEqual(read_pages(text=shown_pages(pages)), pages)

    def test_a_line_end_behind_the_last_line(self):
        for pages in (self.PAGES[:1], self.PAGES):
            self.assertEqual(read_pages(shown_pages(pages) + "\n"), pages)
            self.refused((len(pages), 0), read_pages, shown_pages(pages) + "\n\n")

    def test_the_empty_text(self):
        self.assertEqual(read_pages(""), ())
        self.assertIsInstance(read_pages(""), tuple)

    def test_line_ends_alone(self):
        self.refused((0, 0), read_pages, "\n")
        self.refused((0, 0), read_pages, "\n\n")

    def test_lines_without_signs(self):
        self.refused((0, 0), read_pages, "\n640.0 go ann")
        self.refused((1, 0), read_pages, "640.0 go ann\n\n640.1 go bob")

    def test_the_first_line_goes(self):
        good = "640.0 go ann"
        self.refused((1, 2), read_pages, "\n".join([good, "1.2 go", good, "1.2 walk", good]))
        self.refused((0, 1), read_pages, "\n".join(["1.2 walk", "nothing", good]))
        self.refused((2, 3), read_pages, "\n".join([good, good, "1.2 go ann bob", "x"]))
        self.refused((2, 0), read_pages, "\n".join([good, good, " " + good]))

    def test_each_by_itself(self):
        text = "9.9 go ann\n1.1 go ann\n9.9 go bob\n9.9 go ann"
        self.assertEqual([page[0] for page in read_pages(text)], [(9, 9), (1, 1), (9, 9), (9, 9)])

    def test_one_page_has_no_line_ends(self):
        self.refused((0, 2), read_page, "640.0 go ann\n")
        self.refused((0, 2), read_page, "640.0 go ann\n640.1 go bob")


class TestHouses(Checks):
    def test_the_example(self):
        self.assertEqual(read_house(HOUSE_TEXT), HOUSE)
        self.assertEqual(read_house(text=HOUSE_TEXT), HOUSE)

    def test_what_is_written(self):
        for house in HOUSES:
            self.assertEqual(read_house(shown_house(house)), house)

    def test_rows_of_the_menu(self):
        for row in ("", "|", "-", "tea", "tea/2", "tea/2/", "tea//0:5", "/2/0:5", "tea/2/0:5/", "tea/2/0:5/1", "tea/2/5",
                    "tea/2/0", "tea/2/0:", "tea/2/:5", "tea/2/0:5:6", "tea/2/0:5,", "tea/2/,0:5", "tea/2/0:5,,6:7",
                    "tea/2/0:5,6", "tea/2/0;5", "Tea/2/0:5", "tea1/2/0:5", "abcdefghi/2/0:5", "tea/2/0.5", "//", "/"):
            self.no_house(0, row + " | - | 40 2")
            self.no_house(0, row)
            if row != "|":
                self.no_house(1, "soup/1/0:1 " + row + " | - | 40 2")
        for number in NO_NUMBERS:
            self.no_house(0, "tea/" + number + "/0:5 | - | 40 2")
            self.no_house(0, "tea/2/" + number + ":5 | - | 40 2")
            self.no_house(1, "soup/1/0:1 tea/2/0:5,7:" + number + " | - | 40 2")
            self.no_house(0, "tea/2/0:5," + number + ":6 | - | 40 2")

    def test_froms_rise_from_nought(self):
        for prices in ("1:5", "0:5,0:6", "0:5,7:6,7:6", "0:5,7:6,6:6", "5:1,0:2", "0:5,10:1,9:2"):
            self.no_house(0, "tea/2/" + prices + " | - | 40 2")
        self.assertEqual(read_house("tea/2/0:0,9:0,10:7 | - | 40 2"),
                         ((("tea", 2, ((0, 0), (9, 0), (10, 7))),), (), 40, 2))

    def test_items_rise(self):
        self.no_house(1, "tea/2/0:5 soup/2/0:5 | - | 40 2")
        self.no_house(1, "tea/2/0:5 tea/2/0:5 | - | 40 2")
        self.no_house(2, "soup/2/0:5 tea/2/0:5 tart/2/0:5 | - | 40 2")
        self.no_house(2, "soup/2/0:5 tea/2/0:5 tea/3/0:5 | - | 40 2")

    def test_bars(self):
        self.no_house(0, "| - | 40 2")
        self.no_house(2, "tea/2/0:5 | | 40 2")
        self.no_house(2, "tea/2/0:5 | | - | 40 2")
        self.no_house(1, "tea/2/0:5 || - | 40 2")
        self.no_house(4, "tea/2/0:5 | - | | 40 2")
        self.no_house(1, "tea/2/0:5 - | 40 2")
        self.no_house(4, "tea/2/0:5 | tea/1/2/3 | - 40 2")

    def test_nothing_alone_in_the_place_of_offs(self):
        self.no_house(3, "tea/2/0:5 | - - | 40 2")
        self.no_house(3, "tea/2/0:5 | - tea/1/2/3 | 40 2")
        self.no_house(3, "tea/2/0:5 | tea/1/2/3 - | 40 2")
        self.no_house(3, "tea/2/0:5 | - 40 2")

    def test_offs(self):
        for off in ("", "tea", "tea/1", "tea/1/2", "tea/1/2/3/4", "tea/1/2/", "tea//2/3", "/1/2/3", "Tea/1/2/3",
                    "tea+/1/2/3", "+tea/1/2/3", "soup++tea/1/2/3", "tea+soup/1/2/3", "tea+tea/1/2/3", "-+tea/1/2/3",
                    "tea+-/1/2/3", "--/1/2/3", "soup,tea/1/2/3", "a+c+b/1/2/3", "abcdefghi/1/2/3", "tea/1/2/101",
                    "tea/1/2/1000", "tea/1/2/999999999999", "1/2/3", "-/1/2", "-/", "tea/2/0:5"):
            self.no_house(2, "tea/2/0:5 | " + off + " | 40 2")
            self.no_house(3, "tea/2/0:5 | tea/1/2/3 " + off + " | 40 2")
        for number in NO_NUMBERS:
            self.no_house(2, "tea/2/0:5 | tea/" + number + "/2/3 | 40 2")
            self.no_house(2, "tea/2/0:5 | tea/1/" + number + "/3 | 40 2")
            self.no_house(2, "tea/2/0:5 | tea/1/2/" + number + " | 40 2")
        for percent in (0, 1, 99, 100):
            self.assertEqual(read_house(f"tea/2/0:5 | x/9/3/{percent} | 40 2")[1], ((("x",), 9, 3, percent),))

    def test_wait_and_fires(self):
        for number in NO_NUMBERS:
            self.no_house(4, "tea/2/0:5 | - | " + number + " 2")
            self.no_house(5, "tea/2/0:5 | tea/1/2/3 tea/1/2/3 | " + number + " 2")
            self.no_house(5, "tea/2/0:5 | - | 40 " + number)
        self.no_house(5, "tea/2/0:5 | - | 40 0")
        self.assertEqual(read_house("tea/2/0:5 | - | 0 1")[2:], (0, 1))

    def test_words_lacking(self):
        for house in HOUSES:
            words = shown_house(house).split(" ")
            for many in range(1, len(words)):
                self.no_house(many, " ".join(words[:many]))

    def test_words_too_many(self):
        for house in HOUSES:
            words = shown_house(house).split(" ")
            for more in ("", "1", "|", "-", "tea/2/0:5"):
                self.no_house(len(words), " ".join(words + [more]))

    def test_blanks(self):
        for house in HOUSES:
            words = shown_house(house).split(" ")
            for at in range(len(words) + 1):
                self.no_house(at, " ".join(words[:at] + [""] + words[at:]))
        self.no_house(0, "")
        self.no_house(0, " ")

    def test_the_first_word_goes(self):
        self.no_house(0, "Tea/2/0:5 | + | x 0")
        self.no_house(2, "tea/2/0:5 | + | x 0")
        self.no_house(4, "tea/2/0:5 | - | x 0")
        self.no_house(5, "tea/2/0:5 | - | 1 0 1")

    def test_a_line_end_is_no_part_of_a_house(self):
        self.refused((0, 6), read_house, HOUSE_TEXT + "\n")


# [83] by patterns: what all words together may be, for words from a small stock.
NUMBER = "(0|[1-9][0-9]{0,11})"
SEAT = "[a-z]{1,8}"
PATTERNS = [re.compile(NUMBER + r"\." + NUMBER + " " + deed) for deed in (
    f"(sit|move|join) {SEAT} {SEAT}", f"go {SEAT}", f"ask {NUMBER} {SEAT} {NUMBER}( {SEAT})+",
    f"change {NUMBER} {SEAT}", f"(fire|rush) {SEAT} {NUMBER}", f"(serve|back|strike) {NUMBER}",
    f"pay {SEAT} {NUMBER}", f"take {SEAT} {SEAT} {NUMBER}", f"even {SEAT}( {SEAT})+")]


def writes_a_page(text):
    if not any(pattern.fullmatch(text) for pattern in PATTERNS):
        return False
    word, *rest = text.split(" ")[1:]
    if word in ("join", "take") and rest[0] == rest[1]:
        return False
    if word in ("pay", "take") and rest[-1] == "0":
        return False
    seats = {"ask": rest[3:], "even": rest}.get(word, [])
    return all(low < high for low, high in zip(seats, seats[1:]))


class TestAgainstPatterns(unittest.TestCase):
    def test_words_of_a_small_stock(self):
        stock = ("a", "b", "0", "5", "")
        words = "sit join go ask change fire serve pay take even walk".split()
        for many in range(5):
            for word, parts in itertools.product(words, itertools.product(stock, repeat=many)):
                self.check(" ".join(["1.2", word, *parts]))
        for parts in itertools.product(("0", "a", "b"), repeat=5):
            self.check(" ".join(["1.2", "ask", *parts]))

    def check(self, text):
        try:
            page = read_page(text)
        except NoText:
            page = None
        self.assertEqual(page is not None, writes_a_page(text), text)
        if page is not None:
            self.assertEqual(shown_page(page), text)


if __name__ == "__main__":
    unittest.main()
