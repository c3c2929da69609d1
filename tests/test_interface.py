"""The interface: each function by its name, its arguments and their values, in its own file."""

import importlib
import inspect
import unittest

# Each function as DOC.md's interface writes it, by its file.
INTERFACE = {
    "kinds": ("is_number(thing)", "is_word(thing)"),
    "dealing": ("deal(pence, many, begun=0)", "dealt_on(pieces, many)"),
    "splitting": ("split(total, weights)", "rests(total, weights)"),
    "naming": ("renamed(book, words=None, later=0)", "house_later(house, later=0)"),
    "lines": ("shown_house(house)", "shown_page(page)", "shown_pages(pages)"),
}


class TestInterface(unittest.TestCase):
    def test_functions(self):
        for file, written in INTERFACE.items():
            module = importlib.import_module("tablebills." + file)
            for wanted in written:
                name = wanted.split("(")[0]
                function = getattr(module, name)
                self.assertEqual(name + str(inspect.signature(function)), wanted)
                self.assertEqual(function.__module__, module.__name__)


if __name__ == "__main__":
    unittest.main()
