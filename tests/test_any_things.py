"""[2] Looks and checkers change nothing of what is handed in, and hang on nothing asked ahead."""

import copy
import unittest

from tablebills.accountchecker import lets_account
from tablebills.books import is_book
from tablebills.deeds import is_deed, is_page
from tablebills.errors import NoPaper
from tablebills.fewestchecker import lets_fewest
from tablebills.houses import is_house
from tablebills.jobs import is_jobs
from tablebills.kinds import is_number, is_word
from tablebills.latechecker import lets_late
from tablebills.menus import is_menu, is_offs
from tablebills.mostchecker import lets_most
from tablebills.rowchecker import lets_row
from tablebills.splitchecker import lets_split
from tablebills.stretchchecker import lets_full
from tablebills.trees import is_tree
from tablebills.turnchecker import lets_turns
from tests.samples import ANY_THINGS, DEEDS, HOUSE

BOOK = (((600, 1), ("sit", "ann", "one")), ((600, 2), ("ask", 0, "tea", 0, ("ann",))), ((601, 0), ("fire", "one", 0)))
LOOKS = (is_number, is_word, is_menu, is_offs, is_deed, is_page, is_jobs, is_book, is_house, is_tree)
THINGS = ANY_THINGS + (HOUSE,) + HOUSE[:2] + tuple(deed for deed, text in DEEDS) + (
    (), ((3, 8, 5),), ((600, 1), ("go", "ann")), ((0, 0, 1), [1, 0, 1]), (1, [2]), ([1], 2),
    (((600, 1), ("go", "ann")),), (((600, 1), ("go", "ann")), []), ((1, ()), (2, ((1, ()),))), ((1, ()), (2, [])),
    HOUSE[:3] + ([1],), ((), ()), (((0, 0, 1),), ([0, 3],)), (1, 3), (0, 4), (0, (), None), (1, ([3],), [1]), (2, [()], (0, 4)))


def answer(checker, *told):
    try:
        return checker(*told)
    except NoPaper as error:
        return error.word, error.at


class TestAnyThings(unittest.TestCase):
    def test_looks(self):
        first = [look(thing) for thing in THINGS for look in LOOKS]
        things = copy.deepcopy(THINGS)
        second = [look(thing) for thing in reversed(things) for look in reversed(LOOKS)]
        self.assertEqual(second[::-1], first)
        self.assertEqual(things, THINGS)
        self.assertEqual({repr(told) for told in first}, {"True", "False"})

    def test_checkers(self):
        jobs = ((0, 4, 3), (1, 3, 2))
        things = copy.deepcopy(THINGS)
        for thing in things:
            for some in (True, False):
                first = answer(lets_row, jobs, 2, thing, some)
                self.assertEqual(answer(lets_row, jobs, 2, thing, some), first)
            for checker, told in ((lets_split, (3, (1, 2))), (lets_full, (jobs, 1)), (lets_late, (jobs, 2)),
                                  (lets_late, ((), 1)), (lets_fewest, (jobs,)), (lets_fewest, ((),)),
                                  (lets_most, (jobs, 1)), (lets_most, ((), 1)),
                                  (lets_turns, (HOUSE, BOOK)), (lets_turns, (HOUSE, ())),
                                  (lets_account, (HOUSE, BOOK, "ann"))):
                first = answer(checker, *told, thing)
                self.assertEqual(answer(checker, *told, thing), first)
        self.assertEqual(things, THINGS)


if __name__ == "__main__":
    unittest.main()
