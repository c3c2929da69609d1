"""[2] Looks and checkers change nothing of what is handed in, and hang on nothing asked ahead."""

import copy
import unittest

from tablebills.deeds import is_deed, is_page
from tablebills.errors import NoPaper
from tablebills.jobs import is_jobs
from tablebills.kinds import is_number, is_word
from tablebills.menus import is_menu, is_offs
from tablebills.rowchecker import lets_row
from tablebills.splitchecker import lets_split
from tests.samples import ANY_THINGS, DEEDS, HOUSE

LOOKS = (is_number, is_word, is_menu, is_offs, is_deed, is_page, is_jobs)
THINGS = ANY_THINGS + HOUSE[:2] + tuple(deed for deed, text in DEEDS) + (
    (), ((3, 8, 5),), ((600, 1), ("go", "ann")), ((0, 0, 1), [1, 0, 1]), (1, [2]), ([1], 2))


def answer(checker, *told):
    try:
        return checker(*told)
    except NoPaper as error:
        return error.word, error.at


class TestAnyThings(unittest.TestCase):
    def test_looks(self):
        first = [look(thing) for thing in THINGS for look in LOOKS]
        things = copy.deepcopy(THINGS)
        second = [look(thing) for thing in reversed(things) for look in reversed(LOOKS)]
        self.assertEqual(second[::-1], first)
        self.assertEqual(things, THINGS)
        self.assertEqual({repr(told) for told in first}, {"True", "False"})

    def test_checkers(self):
        jobs = ((0, 4, 3), (1, 3, 2))
        things = copy.deepcopy(THINGS)
        for thing in things:
            for some in (True, False):
                first = answer(lets_row, jobs, 2, thing, some)
                self.assertEqual(answer(lets_row, jobs, 2, thing, some), first)
            first = answer(lets_split, 3, (1, 2), thing)
            self.assertEqual(answer(lets_split, 3, (1, 2), thing), first)
        self.assertEqual(things, THINGS)


if __name__ == "__main__":
    unittest.main()
