"""[3], [24] HOUSES."""

import unittest

from tablebills.houses import is_house
from tests.samples import ANY_THINGS, HOUSE, deep, swapped

NO_COUNTS = (None, True, False, -1, -(10 ** 199), "0", "1", "", (), (1,), [], [1], deep(20))


class TestHouses(unittest.TestCase):
    def test_right_ones(self):
        for house in (HOUSE, ((("item", 0, ((0, 0),)),), (), 0, 1), swapped(HOUSE, 1, ()),
                      swapped(HOUSE, 1, HOUSE[1] * 7)):
            self.assertIs(is_house(house), True, house)

    def test_wait(self):
        for wait in (0, 1, 120, 121, 10 ** 199):
            self.assertIs(is_house(swapped(HOUSE, 2, wait)), True, wait)
        for wait in NO_COUNTS:
            self.assertIs(is_house(swapped(HOUSE, 2, wait)), False, wait)

    def test_fires(self):
        for fires in (1, 2, 9, 10, 10 ** 199):
            self.assertIs(is_house(swapped(HOUSE, 3, fires)), True, fires)
        for fires in NO_COUNTS + (0,):
            self.assertIs(is_house(swapped(HOUSE, 3, fires)), False, fires)

    def test_menu(self):
        for menu in ((), None, "soup", list(HOUSE[0]), HOUSE[0][::-1], HOUSE[0] + HOUSE[0], HOUSE[0][0],
                     (("soup", 10, ()),), (("soup", True, ((0, 1),)),), (("soup", 10, ((1, 1),)),), HOUSE[1], HOUSE):
            self.assertIs(is_house(swapped(HOUSE, 0, menu)), False, menu)

    def test_offs(self):
        for offs in (None, [], list(HOUSE[1]), HOUSE[1][0], "", 0, ((("soup",), 0, 1, 101),),
                     ((("tea", "soup"), 0, 1, 5),), ((["soup"], 0, 1, 5),), HOUSE[1] + (None,), HOUSE[0]):
            self.assertIs(is_house(swapped(HOUSE, 1, offs)), False, offs)

    def test_a_list_for_a_tuple(self):
        self.assertIs(is_house(list(HOUSE)), False)
        self.assertIs(is_house([HOUSE]), False)

    def test_one_more_and_one_fewer(self):
        for at in range(4):
            self.assertIs(is_house(HOUSE[:at] + HOUSE[at + 1:]), False, at)
        for more in (1, 0, None, ()):
            self.assertIs(is_house(HOUSE + (more,)), False, more)
            self.assertIs(is_house((more,) + HOUSE), False, more)

    def test_parts_exchanged(self):
        menu, offs, wait, fires = HOUSE
        for house in ((offs, menu, wait, fires), (menu, wait, offs, fires), (wait, fires, menu, offs), (HOUSE,)):
            self.assertIs(is_house(house), False, house)

    def test_any_thing(self):
        for thing in ANY_THINGS + ((),):
            self.assertIs(is_house(thing), False, thing)
        self.assertIs(is_house(thing=HOUSE), True)


if __name__ == "__main__":
    unittest.main()
