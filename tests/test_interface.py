"""The interface: each function, class and method by its name, its arguments and their values, in its own file."""

import importlib
import inspect
import unittest

# Each function and class as DOC.md's interface writes it, by its file.
INTERFACE = {
    "kinds": ("is_number(thing)", "is_word(thing)"),
    "dealing": ("deal(pence, many, begun=0)", "dealt_on(pieces, many)"),
    "splitting": ("split(total, weights)", "rests(total, weights)"),
    "naming": ("renamed(book, words=None, later=0)", "house_later(house, later=0)"),
    "lines": ("shown_house(house)", "shown_page(page)", "shown_pages(pages)"),
    "menus": ("is_menu(thing)", "is_offs(thing)", "price(menu, item, minute=0)", "minutes_of(menu, item)"),
    "deeds": ("is_deed(thing)", "is_page(thing)"),
    "jobs": ("is_jobs(thing)", "within(jobs, begin, end)", "later_jobs(jobs, by=1)"),
    "readings": ("read_house(text)", "read_page(text, line=0)", "read_pages(text)"),
    "rowchecker": ("lets_row(jobs, fires, thing, some=False)",),
    "splitchecker": ("lets_split(total, weights, thing)",),
    "books": ("is_book(thing)", "book_of(pages)", "until(book, minute)"),
    "costs": ("percent_at(offs, item, minute=0)", "cost(menu, offs, item, minute=0)"),
    "houses": ("is_house(thing)",),
    "kitchen": ("kitchen(jobs, fires=1)",),
    "stretchchecker": ("lets_full(jobs, fires, thing)",),
    "trees": ("is_tree(thing)", "leaves(total, tree)"),
    "walking": ("idle(house, book)", "sitting(house, book)", "dishes(house, book, state=None)",
                "table_of(house, book, dish)", "history(house, book, dish)"),
    "lateness": ("lateness(jobs, fires=1)", "late_paper(jobs, fires=1)"),
    "latechecker": ("lets_late(jobs, fires, thing)",),
    "fewest": ("fewest_fires(jobs)", "fires_paper(jobs)"),
    "fewestchecker": ("lets_fewest(jobs, thing)",),
    "most": ("most(jobs, fires=1)", "most_laid(jobs, fires=1)"),
    "turns": ("barred(house, book, table, course=0)", "may_fire(house, book, table, course=0)",
              "firings(house, book)"),
    "runs": ("run(house, book, seats)", "shares_of(house, book, dish)"),
    "paying": ("to_pay(house, book, minute=None)", "owes(house, book, seat, minute=None)", "sums(house, book)"),
    "without": ("backed(house, book, dish)",),
    "mostchecker": ("lets_most(jobs, fires, thing)",),
    "ordering": ("jobs_of(house, book)", "row_of(house, book)"),
    "turnchecker": ("lets_turns(house, book, thing)",),
    "accounts": ("account(house, book, seat)",),
    "accountchecker": ("lets_account(house, book, seat, thing)",),
    "bills": ("Bill(seat, rows=None)", "bill_of(house, book, seat)", "bills_of(house, book, table='')"),
    "diaries": ("Diary(house)",),
    "desk": ("Desk()",),
}

# The methods of each class, by its file; ==, len and str by their double underscores.
METHODS = {
    ("bills", "Bill"): ("called(self)", "rows(self)", "total(self)", "__eq__(self, other)", "__len__(self)",
                        "__str__(self)"),
    ("diaries", "Diary"): ("tell(self, page)", "bring(self, book)", "back(self, times=1)", "house(self)", "book(self)",
                           "steps(self)", "until(self, name)", "then(self, k)", "turned(self)", "__eq__(self, other)",
                           "__len__(self)", "__str__(self)"),
    ("desk", "Desk"): ("say(self, row)",),
}


class TestInterface(unittest.TestCase):
    def test_functions(self):
        for file, written in INTERFACE.items():
            module = importlib.import_module("tablebills." + file)
            for wanted in written:
                name = wanted.split("(")[0]
                function = getattr(module, name)
                self.assertEqual(name + str(inspect.signature(function)), wanted)
                self.assertEqual(function.__module__, module.__name__)

    def test_methods(self):
        for (file, name), written in METHODS.items():
            kind = getattr(importlib.import_module("tablebills." + file), name)
            for wanted in written:
                # Defined in the class itself, not only in a base class.
                method = vars(kind)[wanted.split("(")[0]]
                self.assertEqual(method.__name__ + str(inspect.signature(method)), wanted)


if __name__ == "__main__":
    unittest.main()
