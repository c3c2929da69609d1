"""[13], [14] Percents and COSTS."""

import itertools
import unittest

from tablebills.costs import cost, percent_at
from tablebills.errors import NoItem
from tablebills.menus import price
from tests.samples import ANY_THINGS, HOUSE

OFFS = ((("soup", "tea"), 600, 720, 50), (("tea",), 700, 701, 80), (("soup",), 710, 900, 30))
PRICES = (0, 1, 99, 100, 101)
PERCENTS = (0, 1, 50, 99, 100)

# By each of PRICES the COST by each of PERCENTS, by hand.
COSTS = {
    0: (0, 0, 0, 0, 0),
    1: (1, 1, 1, 1, 0),
    99: (99, 99, 50, 1, 0),
    100: (100, 99, 50, 1, 0),
    101: (101, 100, 51, 2, 0),
}


def menu_of(pence):
    return (("tea", 2, ((0, pence),)),)


class TestPercents(unittest.TestCase):
    def test_at_each_from_and_until(self):
        for minute, soup, tea in ((0, 0, 0), (599, 0, 0), (600, 50, 50), (601, 50, 50), (699, 50, 50), (700, 50, 80),
                                  (701, 50, 50), (709, 50, 50), (710, 50, 50), (719, 50, 50), (720, 30, 0),
                                  (721, 30, 0), (899, 30, 0), (900, 0, 0), (99999, 0, 0)):
            self.assertEqual(percent_at(OFFS, "soup", minute), soup, minute)
            self.assertEqual(percent_at(OFFS, "tea", minute), tea, minute)

    def test_from_nought(self):
        offs = ((("tea",), 0, 2, 7),)
        self.assertEqual([percent_at(offs, "tea", minute) for minute in (0, 1, 2, 3)], [7, 7, 0, 0])

    def test_such_that_never_hold(self):
        for start, end in ((5, 5), (5, 4), (5, 0), (0, 0), (99999, 1)):
            for minute in (0, 1, 3, 4, 5, 6, 99999):
                self.assertEqual(percent_at(((("tea",), start, end, 60),), "tea", minute), 0)
                self.assertEqual(percent_at(((("tea",), start, end, 60), (("tea",), 0, 10 ** 6, 9)), "tea", minute), 9)

    def test_the_greatest_of_several(self):
        offs = ((("tea",), 0, 9, 9), (("tea",), 0, 9, 10), (("tea",), 0, 9, 100), (("tea",), 0, 9, 0))
        for some in range(1, 5):
            for chosen in itertools.permutations(offs, some):
                self.assertEqual(percent_at(chosen, "tea", 3), max(off[3] for off in chosen))

    def test_an_item_that_none_names(self):
        for item in ("bun", "te", "teas", "soups", "a"):
            self.assertEqual(percent_at(OFFS, item, 700), 0)
        self.assertEqual(percent_at((((), 0, 1000, 90),), "tea", 5), 0)

    def test_no_offs(self):
        self.assertEqual(percent_at((), "tea", 5), 0)
        self.assertEqual(percent_at((), "tea"), 0)

    def test_minute_not_handed_in(self):
        offs = ((("tea",), 0, 1, 40), (("tea",), 1, 5, 90))
        self.assertEqual(percent_at(offs, "tea"), 40)
        self.assertEqual(percent_at(offs, "tea", 1), 90)

    def test_by_names(self):
        self.assertEqual(percent_at(minute=720, item="soup", offs=OFFS), 30)
        self.assertEqual(percent_at(item="soup", offs=OFFS), 0)


class TestCosts(unittest.TestCase):
    def test_by_hand(self):
        for pence in PRICES:
            told = tuple(cost(menu_of(pence), ((("tea",), 0, 9, percent),), "tea", 5) for percent in PERCENTS)
            self.assertEqual(told, COSTS[pence], pence)

    def test_the_least_that_isnt_below(self):
        for pence in tuple(range(0, 205)) + (450, 99999, 100000, 10 ** 12 + 1):
            for percent in range(101):
                told = cost(menu_of(pence), ((("tea",), 0, 9, percent),), "tea", 5)
                self.assertGreaterEqual(told * 100, pence * (100 - percent))
                self.assertLess((told - 1) * 100, pence * (100 - percent))
                self.assertIs(type(told), int)

    def test_price_and_percent_of_the_same_minute(self):
        menu, offs = HOUSE[:2]
        for minute, soup, tea in ((0, 450, 200), (599, 450, 200), (600, 225, 100), (719, 225, 100), (720, 450, 200),
                                  (899, 450, 200), (900, 500, 200)):
            self.assertEqual(cost(menu, offs, "soup", minute), soup)
            self.assertEqual(cost(menu, offs, "tea", minute), tea)
        late = ((("soup",), 900, 901, 10),)
        self.assertEqual([cost(menu, late, "soup", minute) for minute in (899, 900, 901)], [450, 450, 500])

    def test_minute_not_handed_in(self):
        menu = (("tea", 2, ((0, 100), (1, 900))),)
        offs = ((("tea",), 0, 1, 25), (("tea",), 1, 9, 50))
        self.assertEqual(cost(menu, offs, "tea"), 75)
        self.assertEqual(cost(menu, offs, "tea", 1), 450)
        self.assertEqual(cost(menu, offs, "tea", 9), 900)

    def test_by_names(self):
        self.assertEqual(cost(minute=600, item="soup", offs=HOUSE[1], menu=HOUSE[0]), 225)
        self.assertEqual(cost(item="soup", offs=HOUSE[1], menu=HOUSE[0]), 450)

    def test_no_item(self):
        # An ITEM that an OFF names, and the MENU hasn't, is refused, too.
        offs = ((("bun", "soup"), 0, 1000, 50),)
        for thing in ANY_THINGS + ("bun", "sou", "soups", ("soup",), ["soup"], 200, ((0, 200),)):
            if thing == "soup":
                continue
            for told in ((HOUSE[0], offs, thing), (HOUSE[0], (), thing, 700)):
                with self.assertRaises(NoItem) as caught:
                    cost(*told)
                self.assertIs(caught.exception.item, thing)


class TestSo(unittest.TestCase):
    """[14]"""
    MENU = (("soup", 1, ((0, 100), (710, 101))), ("tea", 1, ((0, 99), (600, 1), (700, 0), (720, 5000))))
    MINUTES = (0, 599, 600, 699, 700, 709, 710, 719, 720, 899, 900)

    def each(self):
        return itertools.product(("soup", "tea"), self.MINUTES)

    def test_from_nought_to_the_price(self):
        for percent, (item, minute) in itertools.product(range(101), self.each()):
            told = cost(self.MENU, OFFS + ((("soup", "tea"), 0, 800, percent),), item, minute)
            self.assertGreaterEqual(told, 0)
            self.assertLessEqual(told, price(self.MENU, item, minute))

    def test_the_price_where_none_holds_or_one_of_nought(self):
        for item, minute in self.each():
            for offs in ((), ((("bun",), 0, 10 ** 6, 50),), ((("soup", "tea"), 0, 10 ** 6, 0),),
                         ((("soup", "tea"), 500, 500, 50),), (((), 0, 10 ** 6, 50),)):
                self.assertEqual(cost(self.MENU, offs, item, minute), price(self.MENU, item, minute))

    def test_nought_by_one_of_a_hundred(self):
        for item, minute in self.each():
            self.assertEqual(cost(self.MENU, OFFS + ((("soup", "tea"), 0, 10 ** 6, 100),), item, minute), 0)

    def test_less_than_the_price_of_a_hundred_and_more_pence(self):
        for pence in (100, 101, 102, 199, 200, 201, 450, 100000):
            for percent in range(1, 101):
                self.assertLess(cost(menu_of(pence), ((("tea",), 0, 9, percent),), "tea"), pence)

    def test_one_off_more_turns_none_to_more(self):
        for percent, (item, minute) in itertools.product(range(0, 101, 5), self.each()):
            more = OFFS + ((("tea",), 0, 10 ** 6, percent),)
            self.assertLessEqual(cost(self.MENU, more, item, minute), cost(self.MENU, OFFS, item, minute))

    def test_order_and_twice_turn_nothing(self):
        for item, minute in self.each():
            told = cost(self.MENU, OFFS, item, minute)
            for offs in itertools.permutations(OFFS):
                self.assertEqual(cost(self.MENU, offs, item, minute), told)
                for off in OFFS:
                    self.assertEqual(cost(self.MENU, offs + (off,), item, minute), told)


if __name__ == "__main__":
    unittest.main()
