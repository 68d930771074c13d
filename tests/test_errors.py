"""Point [1], paperkin/errors.py: what the program refuses by."""

import unittest

from paperkin import errors
from tests.things import Stranger, deep

BASES = {
    "BankError": Exception,
    "BadWish": errors.BankError,
    "BadPaper": errors.BankError,
    "BadSheet": errors.BankError,
    "BadLine": errors.BankError,
    "Gone": errors.BankError,
    "BadQuestion": ValueError,
    "BadText": ValueError,
    "NoSuch": KeyError,
    "NoPlace": IndexError,
    "TooMany": OverflowError,
    "BadKind": TypeError,
    "Unmet": LookupError,
    "NoAnswers": ZeroDivisionError,
    "Twice": RuntimeError,
}
ONE_FIELD = {
    "BadWish": "at", "BadPaper": "at", "BadSheet": "at", "BadQuestion": "part", "NoSuch": "name", "NoPlace": "at",
    "TooMany": "most", "BadKind": "wanted", "Twice": "name",
}
TWO_FIELDS = {"BadLine": ("row", "word"), "Unmet": ("lot", "sums")}
OF_A_TEXT = ("BankError", "Gone", "BadText", "NoAnswers")


def some_things():
    return [None, True, 0, -7, 10 ** 3999, "", "ab", b"x", [1], (1, 2), {"a": [1]}, {3}, Stranger(), Stranger, deep(40)]


class Bases(unittest.TestCase):
    def test_each_has_the_base_told_and_no_other(self):
        for name, base in BASES.items():
            self.assertEqual(getattr(errors, name).__bases__, (base,), name)

    def test_each_is_defined_in_the_file(self):
        for name in BASES:
            self.assertEqual(getattr(errors, name).__module__, "paperkin.errors", name)


class Fields(unittest.TestCase):
    def test_one_field_is_the_very_thing_handed_in(self):
        for name, field in ONE_FIELD.items():
            for thing in some_things():
                error = getattr(errors, name)(thing)
                self.assertIs(getattr(error, field), thing, name)

    def test_two_fields_stand_in_their_order(self):
        for name, (first, second) in TWO_FIELDS.items():
            for one in some_things():
                other = [one]
                error = getattr(errors, name)(one, other)
                self.assertIs(getattr(error, first), one, name)
                self.assertIs(getattr(error, second), other, name)

    def test_raised_they_keep_their_fields(self):
        for name, field in ONE_FIELD.items():
            thing = ["x"]
            with self.assertRaises(BASES[name]) as caught:
                raise getattr(errors, name)(thing)
            self.assertIs(getattr(caught.exception, field), thing)

    def test_the_others_are_made_of_a_text(self):
        for name in OF_A_TEXT:
            self.assertEqual(str(getattr(errors, name)("some text")), "some text", name)


class Texts(unittest.TestCase):
    def test_bad_question(self):
        self.assertEqual(str(errors.BadQuestion("toil")), "bad toil")
        self.assertEqual(str(errors.BadQuestion("")), "bad ")

    def test_no_such(self):
        self.assertEqual(str(errors.NoSuch("adds")), "nothing called 'adds'")
        self.assertEqual(str(errors.NoSuch(5)), "nothing called 5")
        self.assertEqual(str(errors.NoSuch("it's")), 'nothing called "it\'s"')

    def test_too_many(self):
        self.assertEqual(str(errors.TooMany(60)), "more than 60")
        self.assertEqual(str(errors.TooMany("ab")), "more than ab")

    def test_of_anything(self):
        for thing in some_things():
            self.assertEqual(str(errors.BadQuestion(thing)), "bad " + str(thing))
            self.assertEqual(str(errors.NoSuch(thing)), "nothing called " + repr(thing))
            self.assertEqual(str(errors.TooMany(thing)), "more than " + str(thing))


if __name__ == "__main__":
    unittest.main()
