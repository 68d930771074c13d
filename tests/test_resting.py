"""Point [11], paperkin/banks.py: what rests, and what is found."""

import unittest

from paperkin.banks import Bank, resting
from paperkin.errors import BadKind, NoPlace
from tests.things import a_question, no_whole_numbers, strangers


def a_bank():
    bank = Bank([
        a_question("adds", "sums", 3, kin="k"), a_question("dates", "past", 9), a_question("kings", "past", 1, kin="k"),
        a_question("mul", "sums", 7, kin="l"), a_question("seas", "earth", 5), a_question("wars", "past", 4, kin="k"),
    ])
    bank.taken_out("kings")
    bank.used_on("kings", 100)
    bank.used_on("adds", 100)
    bank.used_on("adds", 200)
    bank.used_on("seas", 199)
    return bank


ALL_IN = ["adds", "dates", "mul", "seas", "wars"]


class Found(unittest.TestCase):
    def found(self, told, *places, **more):
        bank = a_bank()
        self.assertEqual(bank.found(*places, **more), told)
        self.assertEqual(bank, a_bank())

    def test_nothing_asked(self):
        self.found(ALL_IN)
        self.assertEqual(Bank().found(), [])

    def test_matter(self):
        self.found(["adds", "mul"], "sums")
        self.found(["dates", "wars"], matter="past")
        self.found(["seas"], matter="earth")
        self.found([], matter="none")
        self.found(ALL_IN, matter="")

    def test_toil(self):
        self.found(["dates", "mul"], least=6)
        self.found(["dates", "mul"], least=7)
        self.found(["dates"], least=8)
        self.found(["adds"], most=3)
        self.found([], most=2)
        self.found(["seas", "wars"], least=4, most=5)
        self.found(ALL_IN, least=0, most=9999)
        self.found([], least=10)
        self.found([], most=0)
        self.found([], least=6, most=5)
        self.found(["seas"], "", 5, 5)

    def test_kin(self):
        self.found(["adds", "wars"], kin="k")
        self.found(["mul"], kin="l")
        self.found([], kin="none")
        self.found(ALL_IN, kin="")

    def test_rest(self):
        self.found(ALL_IN, day=200)
        self.found(ALL_IN, day=200, rest=0)
        self.found(ALL_IN, rest=9999)
        self.found(ALL_IN, day=None, rest=9999)
        self.found(["dates", "mul", "seas", "wars"], day=200, rest=1)
        self.found(["dates", "mul", "wars"], day=200, rest=2)
        self.found(ALL_IN, day=99, rest=9999)
        self.found(["dates", "mul", "seas", "wars"], day=100, rest=1)
        self.found(["dates", "mul", "seas", "wars"], day=150, rest=51)
        self.found(ALL_IN, day=150, rest=50)
        self.found(ALL_IN, day=0, rest=9999)
        self.found(["dates", "mul", "wars"], day=9999, rest=9999)

    def test_together(self):
        self.found(["wars"], "past", 1, 8, "k")
        self.found(["mul"], "sums", 1, 9, "", 200, 1)
        self.found(["wars"], kin="k", day=200, rest=1)
        self.found([], matter="sums", kin="k", day=200, rest=1)
        self.found(["adds"], matter="sums", kin="k", day=201, rest=1)
        self.found(["dates"], rest=5, day=200, least=8, matter="past")

    def test_those_out_are_not_found(self):
        bank = a_bank()
        bank.put_back("kings")
        self.assertEqual(bank.found("past"), ["dates", "kings", "wars"])
        bank.taken_out("dates")
        self.assertEqual(bank.found("past"), ["kings", "wars"])


class Resting(unittest.TestCase):
    def test_around_a_use(self):
        bank = Bank([a_question("a"), a_question("b")])
        bank.used_on("a", 100)
        for day, rest, told in (
            (99, 5, []), (0, 9999, []), (100, 5, ["a"]), (101, 5, ["a"]), (104, 5, ["a"]), (105, 5, []),
            (106, 5, []), (100, 1, ["a"]), (101, 1, []), (100, 0, []), (101, 0, []), (9999, 9999, ["a"]),
            (9999, 9899, []), (9999, 9900, ["a"]),
        ):
            self.assertEqual(resting(bank, day, rest), told, (day, rest))

    def test_the_last_use_up_to_the_day(self):
        bank = Bank([a_question("a")])
        bank.used_on("a", 0)
        bank.used_on("a", 10)
        bank.used_on("a", 9999)
        for day, rest, told in (
            (0, 1, ["a"]), (3, 3, []), (3, 4, ["a"]), (9, 9, []), (9, 10, ["a"]), (10, 1, ["a"]), (12, 3, ["a"]),
            (13, 3, []), (9999, 1, ["a"]), (9998, 9988, []), (9998, 9989, ["a"]),
        ):
            self.assertEqual(resting(bank, day, rest), told, (day, rest))

    def test_those_in_alone_rising(self):
        bank = a_bank()
        self.assertEqual(resting(bank, 200, 9999), ["adds", "seas"])
        bank.put_back("kings")
        self.assertEqual(resting(rest=9999, day=200, bank=bank), ["adds", "kings", "seas"])
        self.assertEqual(resting(bank, 200, 100), ["adds", "seas"])
        told = resting(bank, 200, 9999)
        told.clear()
        self.assertEqual(resting(bank, 200, 9999), ["adds", "kings", "seas"])
        self.assertEqual(resting(Bank(), 0, 9999), [])

    def test_refused_by_its_order(self):
        for thing in strangers() + [[], (), a_question()]:
            for day, rest in ((0, 0), (-1, 0), (0, -1), (None, None)):
                with self.assertRaises(BadKind) as caught:
                    resting(thing, day, rest)
                self.assertEqual(caught.exception.wanted, "Bank")
        for thing in [-1, 10000, 10 ** 3999] + no_whole_numbers():
            for rest in (0, -2, None, "x"):
                with self.assertRaises(NoPlace) as caught:
                    resting(a_bank(), thing, rest)
                self.assertIs(caught.exception.at, thing)
            with self.assertRaises(NoPlace) as caught:
                resting(a_bank(), 0, thing)
            self.assertIs(caught.exception.at, thing)


if __name__ == "__main__":
    unittest.main()
