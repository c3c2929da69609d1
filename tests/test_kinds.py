"""[2], [3], [10] NUMBERS and WORDS."""

import unittest

from tablebills.kinds import is_number, is_word
from tests.samples import ANY_THINGS, deep

LETTERS = "abcdefghijklmnopqrstuvwxyz"


class TestNumbers(unittest.TestCase):
    def test_numbers(self):
        for thing in (0, 1, -1, 2, -7, 99999, 10 ** 12, 10 ** 199, -(10 ** 199), int("9" * 200)):
            self.assertIs(is_number(thing), True, thing)

    def test_truths_are_none(self):
        self.assertIs(is_number(True), False)
        self.assertIs(is_number(False), False)

    def test_other_things_are_none(self):
        for thing in (None, "", "0", "1", "a", (), (1,), [], [1], (1, [2]), [(1,)], deep(20), deep(20, None)):
            self.assertIs(is_number(thing), False, thing)

    def test_by_name(self):
        self.assertIs(is_number(thing=3), True)
        self.assertIs(is_number(thing="3"), False)


class TestWords(unittest.TestCase):
    def test_one_letter_each(self):
        for letter in LETTERS:
            self.assertIs(is_word(letter), True, letter)

    def test_each_length(self):
        for length in range(1, 9):
            self.assertIs(is_word("z" * length), True)
            self.assertIs(is_word(LETTERS[:length]), True)
        for length in (9, 10, 26, 4000):
            self.assertIs(is_word("a" * length), False)

    def test_the_empty_text(self):
        self.assertIs(is_word(""), False)

    def test_every_other_sign(self):
        for code in range(32, 127):
            sign = chr(code)
            if sign in LETTERS:
                continue
            for text in (sign, "a" + sign, sign + "a", "ab" + sign + "cd", "abcdefg" + sign):
                self.assertIs(is_word(text), False, text)

    def test_other_things(self):
        for thing in (None, True, False, 0, 1, -1, 10 ** 199, (), ("a",), [], ["a"], ("a", ["b"]),
                      ["a", "b"], ("a", "b"), deep(20, "a"), (("a",),)):
            self.assertIs(is_word(thing), False, thing)

    def test_by_name(self):
        self.assertIs(is_word(thing="ann"), True)
        self.assertIs(is_word(thing="Ann"), False)

    def test_a_look_tells_a_truth_of_any_thing(self):
        for thing in ANY_THINGS:
            self.assertIn(is_word(thing), (True, False))
            self.assertIs(is_word(thing), isinstance(thing, str) and thing.isalpha()
                          and thing.islower() and len(thing) < 9)
            self.assertIs(is_number(thing), not isinstance(thing, (bool, str, tuple, list))
                          and thing is not None)


if __name__ == "__main__":
    unittest.main()
