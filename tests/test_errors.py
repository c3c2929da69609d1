"""[9] The refusals, their fields and their families."""

import unittest

from tablebills import errors

BILL = (("NoPage", ("word",)), ("NoPaper", ("word", "at")), ("NoFires", ("stretch",)),
        ("NoText", ("line", "word")), ("NoRow", ("row",)))
LOST = (("NoItem", ("item",)), ("NoDish", ("dish",)), ("NoSeat", ("seat",)), ("NoBack", ("times",)))
ALL = BILL + LOST


class TestFields(unittest.TestCase):
    def check_fields(self, made, fields, things):
        for field, thing in zip(fields, things):
            self.assertIs(getattr(made, field), thing)

    def test_by_places_the_very_things(self):
        for name, fields in ALL:
            things = [[name, at] for at in range(len(fields))]
            made = getattr(errors, name)(*things)
            self.check_fields(made, fields, things)

    def test_by_names_the_very_things(self):
        for name, fields in ALL:
            things = [[name, at] for at in range(len(fields))]
            made = getattr(errors, name)(**dict(zip(fields, things)))
            self.check_fields(made, fields, things)

    def test_by_names_in_the_other_order(self):
        made = errors.NoPaper(at=3, word="row")
        self.assertEqual((made.word, made.at), ("row", 3))
        made = errors.NoText(word=2, line=5)
        self.assertEqual((made.line, made.word), (5, 2))

    def test_a_list_that_grows_has_grown_there(self):
        for name, fields in ALL:
            things = [[] for field in fields]
            made = getattr(errors, name)(*things)
            for at, thing in enumerate(things):
                thing.append(at)
            for at, field in enumerate(fields):
                self.assertEqual(getattr(made, field), [at])

    def test_any_plain_things(self):
        for thing in (None, True, False, 0, -1, 10 ** 199, "", "a", (), [], ([1], (None,)), [[()]]):
            for name, fields in ALL:
                made = getattr(errors, name)(*[thing] * len(fields))
                self.check_fields(made, fields, [thing] * len(fields))

    def test_made_of_just_these(self):
        for name, fields in ALL:
            with self.assertRaises(TypeError):
                getattr(errors, name)(*["a"] * (len(fields) - 1))
            with self.assertRaises(TypeError):
                getattr(errors, name)(*["a"] * (len(fields) + 1))

    def test_two_of_one_kind_keep_apart(self):
        first = errors.NoPaper("shape", -1)
        second = errors.NoPaper("row", 4)
        self.assertEqual((first.word, first.at, second.word, second.at), ("shape", -1, "row", 4))


class TestFamilies(unittest.TestCase):
    def test_the_bases(self):
        self.assertEqual(errors.BillError.__bases__, (ValueError,))
        self.assertEqual(errors.LostError.__bases__, (LookupError,))

    def test_each_straight_under_its_family(self):
        for name, fields in BILL:
            self.assertEqual(getattr(errors, name).__bases__, (errors.BillError,))
        for name, fields in LOST:
            self.assertEqual(getattr(errors, name).__bases__, (errors.LostError,))

    def check_caught(self, name, fields, catcher, other):
        kind = getattr(errors, name)
        with self.assertRaises(catcher):
            raise kind(*["a"] * len(fields))
        with self.assertRaises(kind):
            try:
                raise kind(*["a"] * len(fields))
            except other:
                self.fail(name + " is caught by the other family")

    def test_caught_by_family_and_base_alone(self):
        for name, fields in BILL:
            for catcher, other in ((errors.BillError, errors.LostError), (ValueError, LookupError)):
                self.check_caught(name, fields, catcher, other)
        for name, fields in LOST:
            for catcher, other in ((errors.LostError, errors.BillError), (LookupError, ValueError)):
                self.check_caught(name, fields, catcher, other)

    def test_none_is_another(self):
        for name, fields in ALL:
            made = getattr(errors, name)(*["a"] * len(fields))
            for other, others_fields in ALL:
                self.assertEqual(isinstance(made, getattr(errors, other)), name == other)


if __name__ == "__main__":
    unittest.main()
