"""[82] What is written."""

import unittest

from tablebills.lines import shown_house, shown_page, shown_pages
from tests.samples import DEED_WORDS, DEEDS, HOUSE, HOUSE_TEXT


class TestHouses(unittest.TestCase):
    def test_the_example(self):
        self.assertEqual(shown_house(HOUSE), HOUSE_TEXT)

    def test_no_offs(self):
        self.assertEqual(shown_house(((("item", 0, ((0, 0),)),), (), 0, 1)), "item/0/0:0 | - | 0 1")

    def test_an_off_without_items(self):
        house = ((("tea", 2, ((0, 200),)),), (((), 5, 7, 100),), 3, 9)
        self.assertEqual(shown_house(house), "tea/2/0:200 | -/5/7/100 | 3 9")

    def test_several_offs_as_they_stand(self):
        offs = ((("tea",), 9, 3, 0), ((), 0, 0, 1), (("bun", "soup", "tea"), 0, 99999, 100))
        house = ((("tea", 2, ((0, 200),)),), offs, 120, 2)
        self.assertEqual(shown_house(house),
                         "tea/2/0:200 | tea/9/3/0 -/0/0/1 bun+soup+tea/0/99999/100 | 120 2")

    def test_several_prices(self):
        menu = (("abcdefgh", 60, ((0, 1), (1, 0), (600, 100000), (99999, 7))), ("b", 0, ((0, 5),)))
        self.assertEqual(shown_house((menu, (), 1, 1)), "abcdefgh/60/0:1,1:0,600:100000,99999:7 b/0/0:5 | - | 1 1")

    def test_twelve_figures(self):
        great = 999999999999
        house = ((("a", great, ((0, great), (great, great))),), ((("a",), great, great, 50),), great, great)
        self.assertEqual(shown_house(house),
                         "a/999999999999/0:999999999999,999999999999:999999999999"
                         " | a/999999999999/999999999999/50 | 999999999999 999999999999")

    def test_by_name(self):
        self.assertEqual(shown_house(house=HOUSE), HOUSE_TEXT)


class TestPages(unittest.TestCase):
    def test_the_examples(self):
        self.assertEqual(shown_page(((605, 1), ("ask", 3, "soup", 0, ("ann", "bob")))), "605.1 ask 3 soup 0 ann bob")
        self.assertEqual(shown_page(((640, 0), ("go", "ann"))), "640.0 go ann")
        self.assertEqual(shown_page(((641, 2), ("take", "ann", "bob", 300))), "641.2 take ann bob 300")

    def test_each_deed(self):
        self.assertEqual(tuple(deed[0] for deed, text in DEEDS), DEED_WORDS)
        for deed, text in DEEDS:
            self.assertEqual(shown_page(((0, 0), deed)), "0.0 " + text)
            self.assertEqual(shown_page(((99999, 999), deed)), "99999.999 " + text)

    def test_one_seat(self):
        self.assertEqual(shown_page(((1, 2), ("ask", 0, "tea", 9, ("z",)))), "1.2 ask 0 tea 9 z")

    def test_twelve_figures(self):
        great = 10 ** 11
        self.assertEqual(shown_page(((great, great), ("pay", "a", great))),
                         "100000000000.100000000000 pay a 100000000000")

    def test_by_name(self):
        self.assertEqual(shown_page(page=((640, 0), ("go", "ann"))), "640.0 go ann")


class TestSeveralPages(unittest.TestCase):
    def test_none(self):
        self.assertEqual(shown_pages(()), "")

    def test_one(self):
        self.assertEqual(shown_pages((((640, 0), ("go", "ann")),)), "640.0 go ann")

    def test_in_the_order_handed_in(self):
        pages = (((9, 1), ("go", "ann")), ((3, 0), ("sit", "ann", "one")), ((9, 1), ("go", "ann")))
        self.assertEqual(shown_pages(pages), "9.1 go ann\n3.0 sit ann one\n9.1 go ann")

    def test_each_deed(self):
        pages = tuple(((at, 1), deed) for at, (deed, text) in enumerate(DEEDS))
        wanted = [f"{at}.1 {text}" for at, (deed, text) in enumerate(DEEDS)]
        self.assertEqual(shown_pages(pages), "\n".join(wanted))
        self.assertEqual(shown_pages(pages=pages[::-1]), "\n".join(wanted[::-1]))


if __name__ == "__main__":
    unittest.main()
