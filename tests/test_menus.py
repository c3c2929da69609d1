"""[3], [11], [12] MENUS, OFFS, prices and minutes."""

import unittest

from tablebills.errors import NoItem
from tablebills.menus import is_menu, is_offs, minutes_of, price
from tests.samples import ANY_THINGS, deep, swapped

SOUP = ("soup", 10, ((0, 450), (900, 500)))
TEA = ("tea", 2, ((0, 200),))
MENU = (SOUP, TEA)
OFF = (("soup", "tea"), 600, 720, 50)
NO_COUNTS = (None, True, False, -1, "0", "", (), (0,), [], [0], deep(20))
NO_WORDS = (None, True, False, 0, 1, "", "Soup", "soup1", "so up", "abcdefghi", (), ("soup",), ["soup"])


class TestMenus(unittest.TestCase):
    def test_right_ones(self):
        for menu in (MENU, (SOUP,), (TEA,), (("a", 0, ((0, 0),)),),
                     (("a", 1, ((0, 1),)), ("aa", 1, ((0, 1),)), ("ab", 1, ((0, 1),)), ("b", 1, ((0, 1),))),
                     (("a", 10 ** 199, ((0, 10 ** 199), (1, 0), (2, 0), (10 ** 199, 7))),)):
            self.assertIs(is_menu(menu), True, menu)

    def test_beyond_the_bounds(self):
        names = [a + b for a in "abcdef" for b in "abcdef"]
        menu = tuple((name, 61, tuple((at, 100001) for at in range(9))) for name in names)
        self.assertIs(is_menu(menu), True)

    def test_no_row(self):
        self.assertIs(is_menu(()), False)

    def test_lists_for_tuples(self):
        for menu in ([SOUP, TEA], [], (list(SOUP), TEA), (SOUP, list(TEA)), (swapped(TEA, 2, [(0, 200)]),),
                     (swapped(TEA, 2, ([0, 200],)),), (swapped(SOUP, 2, ((0, 450), [900, 500])),)):
            self.assertIs(is_menu(menu), False, menu)

    def test_items(self):
        for item in NO_WORDS:
            self.assertIs(is_menu((swapped(SOUP, 0, item),)), False, item)
            self.assertIs(is_menu((swapped(SOUP, 0, item), TEA)), False, item)
            self.assertIs(is_menu((SOUP, swapped(TEA, 0, item))), False, item)

    def test_items_rise(self):
        self.assertIs(is_menu((TEA, SOUP)), False)
        self.assertIs(is_menu((SOUP, SOUP)), False)
        self.assertIs(is_menu((SOUP, swapped(TEA, 0, "soup"))), False)
        self.assertIs(is_menu((SOUP, TEA, swapped(TEA, 0, "sz"))), False)
        self.assertIs(is_menu((swapped(TEA, 0, "zz"), SOUP, TEA)), False)

    def test_minutes(self):
        for minutes in NO_COUNTS:
            self.assertIs(is_menu((SOUP, swapped(TEA, 1, minutes))), False, minutes)
            self.assertIs(is_menu((swapped(SOUP, 1, minutes), TEA)), False, minutes)

    def test_prices(self):
        for prices in (None, True, 0, "", "0:1", (), [], 5, (0,), (0, 200), ((),), ((0,),), ((0, 1, 2),),
                       ((0, 1), ()), ((0, 1), (2,)), ((0, 1), (2, 3, 4)), ((0, 1), 5), ((0, 1), None), ("ab",),
                       (((0, 1),),)):
            self.assertIs(is_menu((swapped(TEA, 2, prices),)), False, prices)

    def test_froms(self):
        for start in NO_COUNTS:
            self.assertIs(is_menu((swapped(TEA, 2, ((start, 200),)),)), False, start)
            self.assertIs(is_menu((swapped(TEA, 2, ((0, 200), (start, 1))),)), False, start)

    def test_pence(self):
        for pence in NO_COUNTS:
            self.assertIs(is_menu((swapped(TEA, 2, ((0, pence),)),)), False, pence)
            self.assertIs(is_menu((swapped(TEA, 2, ((0, 200), (5, pence))),)), False, pence)

    def test_froms_rise_from_nought(self):
        for prices in (((1, 200),), ((5, 1), (6, 1)), ((0, 1), (0, 1)), ((0, 1), (0, 2)), ((0, 1), (5, 2), (5, 3)),
                       ((0, 1), (5, 2), (4, 3)), ((1, 1), (0, 1)), ((0, 3), (9, 1), (1, 2), (10, 1))):
            self.assertIs(is_menu((swapped(TEA, 2, prices),)), False, prices)
            self.assertIs(is_menu((SOUP, swapped(TEA, 2, prices))), False, prices)

    def test_rows(self):
        for row in (None, 0, True, "tea", (), ("tea",), ("tea", 2), ("tea", 2, ((0, 200),), 1), (2, "tea", ((0, 200),)),
                    ((0, 200),), "abc", [TEA], (TEA,)):
            self.assertIs(is_menu((row,)), False, row)
            self.assertIs(is_menu((SOUP, row)), False, row)
            self.assertIs(is_menu((row, TEA)), False, row)

    def test_any_thing(self):
        for thing in ANY_THINGS:
            self.assertIs(is_menu(thing), False)
        self.assertIs(is_menu(thing=MENU), True)


class TestOffs(unittest.TestCase):
    def test_right_ones(self):
        for offs in ((), (OFF,), (OFF, OFF), (((), 0, 0, 0),), ((("a",), 5, 5, 100),), ((("b",), 9, 3, 1), OFF),
                     ((("soup",), 10 ** 199, 0, 99),), (OFF,) * 20,
                     ((tuple("abcdefghijklmnopqrstuvwxyz"), 0, 10 ** 199, 0),)):
            self.assertIs(is_offs(offs), True, offs)

    def test_percents(self):
        for percent in range(101):
            self.assertIs(is_offs((swapped(OFF, 3, percent),)), True, percent)
        for percent in NO_COUNTS + (101, 102, 10 ** 199, -100):
            self.assertIs(is_offs((swapped(OFF, 3, percent),)), False, percent)
            self.assertIs(is_offs((OFF, swapped(OFF, 3, percent))), False, percent)

    def test_from_and_until(self):
        for minute in NO_COUNTS:
            self.assertIs(is_offs((swapped(OFF, 1, minute),)), False, minute)
            self.assertIs(is_offs((swapped(OFF, 2, minute), OFF)), False, minute)

    def test_until_below_from(self):
        self.assertIs(is_offs(((("soup",), 700, 600, 5),)), True)
        self.assertIs(is_offs(((("soup",), 1, 0, 5),)), True)

    def test_items(self):
        for items in (None, True, 0, "soup", "", ["soup"], [], ("tea", "soup"), ("soup", "soup"), ("a", "c", "b"),
                      ("b", "a", "c"), (("soup",),), ("soup", None), (1, 2), (True,), ("soup", "Tea"), ("",),
                      ("abcdefghi",), ("a", ["b"])):
            self.assertIs(is_offs((swapped(OFF, 0, items),)), False, items)

    def test_rows(self):
        for off in (None, 0, True, "soup", (), OFF[:3], OFF + (1,), list(OFF), (OFF,), "abcd"):
            self.assertIs(is_offs((off,)), False, off)
            self.assertIs(is_offs((OFF, off)), False, off)

    def test_any_thing(self):
        for thing in ANY_THINGS:
            self.assertIs(is_offs(thing), False, thing)
        for thing in ([OFF], OFF, MENU):
            self.assertIs(is_offs(thing), False, thing)
        self.assertIs(is_offs(thing=(OFF,)), True)
        self.assertIs(is_offs(thing=()), True)


class TestPrices(unittest.TestCase):
    MENU = (("bun", 7, ((0, 30), (5, 10), (600, 0), (900, 100000))), SOUP, TEA)

    def test_at_each_from_and_one_minute_ahead(self):
        for minute, pence in ((0, 30), (4, 30), (5, 10), (6, 10), (599, 10), (600, 0), (601, 0), (899, 0),
                              (900, 100000), (901, 100000), (99999, 100000), (10 ** 12, 100000)):
            self.assertEqual(price(self.MENU, "bun", minute), pence)
        for minute, pence in ((0, 450), (899, 450), (900, 500), (99999, 500)):
            self.assertEqual(price(self.MENU, "soup", minute), pence)
        for minute in (0, 1, 99999):
            self.assertEqual(price(self.MENU, "tea", minute), 200)

    def test_minute_not_handed_in(self):
        self.assertEqual(price(self.MENU, "bun"), 30)
        self.assertEqual(price(self.MENU, "soup"), 450)

    def test_by_names(self):
        self.assertEqual(price(minute=5, item="bun", menu=self.MENU), 10)
        self.assertEqual(price(item="bun", menu=self.MENU), 30)
        self.assertEqual(minutes_of(item="bun", menu=self.MENU), 7)

    def test_minutes(self):
        self.assertEqual([minutes_of(self.MENU, item) for item in ("bun", "soup", "tea")], [7, 10, 2])
        self.assertEqual(minutes_of((("a", 0, ((0, 5),)),), "a"), 0)

    def test_no_item(self):
        for thing in ANY_THINGS + ("sou", "soups", "oup", "Soup", "soup ", " soup", "bu", "buns", ("soup",), ["soup"],
                                   SOUP, 0, 10, ((0, 450), (900, 500))):
            if thing == "soup":
                continue
            with self.assertRaises(NoItem) as caught:
                price(self.MENU, thing)
            self.assertIs(caught.exception.item, thing)
            with self.assertRaises(NoItem) as caught:
                price(self.MENU, thing, 700)
            self.assertIs(caught.exception.item, thing)
            with self.assertRaises(NoItem) as caught:
                minutes_of(self.MENU, thing)
            self.assertIs(caught.exception.item, thing)


if __name__ == "__main__":
    unittest.main()
