"""[3], [24] DEEDS and PAGES."""

import unittest

from tablebills.deeds import is_deed, is_page
from tests.samples import ANY_THINGS, DEED_WORDS, DEEDS, deep, swapped

NO_COUNTS = (None, True, False, -1, -(10 ** 199), "0", "", (), (0,), [], [0], deep(20))
NO_WORDS = (None, True, False, 0, 1, "", "Ann", "ann1", "an n", "abcdefghi", (), ("ann",), ["ann"], deep(20, "ann"))
NO_SEATS = (None, True, 0, "ann", "", [], ["ann"], ["ann", "bob"], (), ("bob", "ann"), ("ann", "ann"),
            ("ann", "bob", "bob"), ("ann", "cy", "bob"), ("ann", None), (None,), (1,), (True, False),
            ("ann", "Bob"), ("",), ("ann", ["bob"]), (("ann",), ("bob",)), (("ann", "bob"),))

# What stands in the places of each DEED, behind its word.
WORD, COUNT, PENCE, SEATS = "word", "count", "pence", "seats"
PLACES = {
    "sit": (WORD, WORD), "move": (WORD, WORD), "join": (WORD, WORD), "go": (WORD,),
    "ask": (COUNT, WORD, COUNT, SEATS), "change": (COUNT, WORD), "fire": (WORD, COUNT), "rush": (WORD, COUNT),
    "serve": (COUNT,), "back": (COUNT,), "strike": (COUNT,),
    "pay": (WORD, PENCE), "take": (WORD, WORD, PENCE), "even": (SEATS,),
}
WRONG = {WORD: NO_WORDS, COUNT: NO_COUNTS, PENCE: NO_COUNTS + (0,), SEATS: NO_SEATS}
RIGHT = {WORD: ("a", "z", "abcdefgh", "soup", "sit"), COUNT: (0, 1, 17, 10 ** 199), PENCE: (1, 2, 10 ** 199),
         SEATS: (("a", "b"), ("a", "aa", "ab"), tuple("abcdefghijklmnopqrstuvwxyz"))}


class TestDeeds(unittest.TestCase):
    def test_each_right_one(self):
        self.assertEqual(tuple(deed[0] for deed, text in DEEDS), DEED_WORDS)
        for deed, text in DEEDS:
            self.assertIs(is_deed(deed), True, deed)

    def test_right_parts_in_each_place(self):
        for deed, text in DEEDS:
            for at, place in enumerate(PLACES[deed[0]]):
                for part in RIGHT[place]:
                    self.assertIs(is_deed(swapped(deed, at + 1, part)), True, (deed, at, part))

    def test_each_place_broken_by_itself(self):
        for deed, text in DEEDS:
            self.assertEqual(len(PLACES[deed[0]]), len(deed) - 1)
            for at, place in enumerate(PLACES[deed[0]]):
                for part in WRONG[place]:
                    self.assertIs(is_deed(swapped(deed, at + 1, part)), False, (deed, at, part))

    def test_too_few_and_too_many(self):
        for deed, text in DEEDS:
            self.assertIs(is_deed(deed[:-1]), False, deed)
            self.assertIs(is_deed(deed[:1]), False, deed)
            for more in ("ann", 1, ("ann", "bob"), None):
                self.assertIs(is_deed(deed + (more,)), False, deed)

    def test_lists_for_tuples(self):
        for deed, text in DEEDS:
            self.assertIs(is_deed(list(deed)), False, deed)
            self.assertIs(is_deed((deed,)), False, deed)
            self.assertIs(is_deed([deed]), False, deed)

    def test_other_words(self):
        for deed, text in DEEDS:
            for word in (None, True, 0, "", "Sit", "sits", "si", deed[0] + " ", deed[0].upper(), deed[0] + "s",
                         (deed[0],), [deed[0]], ([deed[0]],), "pays", "paid"):
                self.assertIs(is_deed(swapped(deed, 0, word)), False, (deed, word))
            self.assertIs(is_deed(deed[1:]), False, deed)

    def test_seat_and_other_alike(self):
        self.assertIs(is_deed(("join", "one", "one")), False)
        self.assertIs(is_deed(("take", "ann", "ann", 5)), False)
        self.assertIs(is_deed(("join", "two", "one")), True)
        self.assertIs(is_deed(("take", "bob", "ann", 5)), True)
        self.assertIs(is_deed(("sit", "one", "one")), True)
        self.assertIs(is_deed(("move", "one", "one")), True)

    def test_seats(self):
        self.assertIs(is_deed(("ask", 0, "tea", 0, ("ann",))), True)
        self.assertIs(is_deed(("even", ("ann",))), False)
        self.assertIs(is_deed(("even", ("ann", "bob"))), True)

    def test_pence(self):
        self.assertIs(is_deed(("pay", "ann", 0)), False)
        self.assertIs(is_deed(("take", "ann", "bob", 0)), False)
        self.assertIs(is_deed(("pay", "ann", 1)), True)
        self.assertIs(is_deed(("take", "ann", "bob", 1)), True)

    def test_any_thing(self):
        for thing in ANY_THINGS:
            self.assertIs(is_deed(thing), False, thing)
        self.assertIs(is_deed(()), False)
        self.assertIs(is_deed(thing=("go", "ann")), True)


class TestPages(unittest.TestCase):
    def test_each_right_one(self):
        for deed, text in DEEDS:
            for name in ((0, 0), (600, 1), (99999, 999), (10 ** 199, 10 ** 199)):
                self.assertIs(is_page((name, deed)), True)

    def test_names_that_are_none(self):
        for deed, text in DEEDS:
            for name in (None, True, 0, 600, "600.1", "", (), (600,), (600, 1, 0), [600, 1], (None, 1), (600, None),
                         (-1, 0), (0, -1), (True, 0), (0, False), ("600", "1"), ("600", 1), (600, "1"), ((600, 1),),
                         ((600,), 1), ([600], [1])):
                self.assertIs(is_page((name, deed)), False, name)

    def test_deeds_that_are_none(self):
        for deed in (None, (), "go ann", ["go", "ann"], ("go",), ("go", "Ann"), ("pay", "ann", 0),
                     ("join", "one", "one"), (("go", "ann"),), ("walk", "ann")):
            self.assertIs(is_page(((600, 1), deed)), False, deed)

    def test_shapes(self):
        name, deed = (600, 1), ("go", "ann")
        for thing in ([name, deed], (name,), (deed,), (deed, name), (name, deed, 1), (name, name), (deed, deed),
                      name + (deed,), ((name, deed),), (name,) + deed):
            self.assertIs(is_page(thing), False, thing)

    def test_any_thing(self):
        for thing in ANY_THINGS + ((),) + tuple(deed for deed, text in DEEDS):
            self.assertIs(is_page(thing), False, thing)
        self.assertIs(is_page(thing=((600, 1), ("go", "ann"))), True)


if __name__ == "__main__":
    unittest.main()
