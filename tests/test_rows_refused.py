"""What all that makes rows is refused by, of anything, in the order told."""

import unittest

from paperkin.banks import Bank
from paperkin.errors import BadKind, BadWish, NoPlace, NoSuch, TooMany
from paperkin.rowcheck import check_row
from paperkin.rowproof import row_proof
from paperkin.rows import most_row, scarce_names
from paperkin.wishes import Wish
from tests.things import Alike, Case, a_question, no_texts, no_whole_numbers, plain_bank, some_names, strangers
from tests.test_rows import a_bank


def check_asked(bank, wishes, size, day=0, aside=None):
    """check_row of what is no row, which would be refused last."""
    return check_row(bank, wishes, size, None, None, day, aside)


PLAIN = (most_row, scarce_names, row_proof)
DEEDS = PLAIN + (check_asked,)


def bank_of_thirteen():
    return plain_bank(some_names(13))


class Refused(Case):
    def each(self, error, value, *told):
        for deed in DEEDS:
            self.refused(error, value, deed, *told)

    def test_no_bank_first(self):
        for thing in strangers() + [[], (), [a_bank()], a_question(), Wish("many"), Alike(), Bank]:
            self.each(BadKind, "Bank", thing, [], 2, 0)
            self.each(BadKind, "Bank", thing, None, None, None, 5)

    def test_then_the_wishes(self):
        for thing in strangers() + [a_question(), a_bank(), Alike()]:
            self.each(BadKind, "list", a_bank(), thing, 2, 0, ["a"])
            self.each(BadKind, "list", a_bank(), thing, 0, None, ["zoo"])
            self.each(BadWish, 1, a_bank(), [Wish("many"), thing], 2, 0)
            self.each(BadWish, 0, a_bank(), ([thing], thing), None, None, 5)
        self.each(BadWish, 12, a_bank(), [Wish("many")] * 13, 2, 0)
        self.each(BadWish, 12, a_bank(), [Wish("many")] * 13 + [None], 0, -1, 5)

    def test_then_the_size(self):
        for thing in [0, 1, 13, 14, 15, -1, -2, 10 ** 3999, -10 ** 3999, Alike()] + no_whole_numbers():
            self.each(NoPlace, thing, a_bank(), [], thing, 0)
            self.each(NoPlace, thing, bank_of_thirteen(), (), thing, None, 5)

    def test_then_the_day(self):
        for thing in [-1, 10000, 10 ** 3999, Alike()] + no_whole_numbers():
            self.each(NoPlace, thing, a_bank(), [], 2, thing)
            self.each(NoPlace, thing, bank_of_thirteen(), [Wish("many")], 12, thing, 5)

    def test_then_what_is_aside(self):
        for thing in [each for each in strangers() if each is not None] + [a_bank(), Wish("many"), Alike(), range(0)]:
            self.each(BadKind, "list", a_bank(), [], 2, 0, thing)
            self.each(BadKind, "list", bank_of_thirteen(), [], 2, 0, thing)

    def test_then_the_first_that_is_no_name_in_the_bank(self):
        for thing in no_texts() + ["", "zoo", "A", "a ", "az", "a" * 5000, Alike(), a_bank(), Wish("many")]:
            self.each(NoSuch, thing, a_bank(), [], 2, 0, [thing])
            self.each(NoSuch, thing, a_bank(), [], 2, 0, ("a", "x", thing, "zoos"))
            self.each(NoSuch, thing, a_bank(), [], 2, 0, ["a", "a", thing, None])
            self.each(NoSuch, thing, bank_of_thirteen(), [], 2, 0, [thing])

    def test_then_too_many(self):
        for many in (13, 14, 60):
            for size in (2, 12):
                self.each(TooMany, 12, plain_bank(some_names(many)), [], size, 0)
                self.each(TooMany, 12, plain_bank(some_names(many)), [Wish("many")] * 12, size, 9999, some_names(10))

    def test_only_those_in_count(self):
        bank = plain_bank(some_names(60))
        for name in some_names(47):
            bank.taken_out(name)
        self.each(TooMany, 12, bank, [], 2, 0, bank.names_in())
        bank.taken_out(bank.names_in()[0])
        for deed in PLAIN:
            deed(bank, [], 12, 0)

    def test_what_lies_on_the_bounds(self):
        for deed in PLAIN:
            for day in (0, 9999):
                deed(plain_bank(some_names(12)), [], 2, day, None)
                deed(plain_bank(some_names(12)), [Wish("many")] * 12, 12, day, [])
                deed(bank=plain_bank(some_names(3)), wishes=(), size=2, day=day, aside=("aa",))

    def test_what_is_refused_changes_nothing(self):
        bank = a_bank()
        wishes = [Wish("many"), None]
        aside = ["a", None]
        self.each(BadWish, 1, bank, wishes, 2, 0, aside)
        self.each(NoSuch, None, bank, [], 2, 0, aside)
        self.assertEqual((wishes, aside), ([Wish("many"), None], ["a", None]))
        self.assertEqual(bank, a_bank())


if __name__ == "__main__":
    unittest.main()
