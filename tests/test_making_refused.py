"""What all that makes papers is refused by, of anything, in the order told."""

import unittest

from paperkin.banks import Bank
from paperkin.errors import BadKind, BadWish, NoPlace, TooMany
from paperkin.lotcheck import check_lot
from paperkin.lots import all_lots, in_the_way, least_lot, lot_sums
from paperkin.making import best_paper, first_paper, fit_papers
from paperkin.wishes import Wish
from tests.things import Alike, Case, a_question, no_whole_numbers, plain_bank, some_names, strangers
from tests.test_making import a_bank


def sums_asked(bank, wishes, size, day=0):
    """lot_sums of what is no LOT, which would be refused last."""
    return lot_sums(bank, wishes, size, None, day)


def check_asked(bank, wishes, size, day=0):
    """check_lot of what is no LOT, which would be refused last."""
    return check_lot(bank, wishes, size, None, None, day)


DEEDS = (fit_papers, first_paper, best_paper, least_lot, all_lots, in_the_way, sums_asked, check_asked)
PLAIN = (fit_papers, first_paper, best_paper, least_lot, all_lots, in_the_way)


class Refused(Case):
    def each(self, error, value, *told):
        for deed in DEEDS:
            self.refused(error, value, deed, *told)

    def test_no_bank_first(self):
        for thing in strangers() + [[], (), [a_bank()], a_question(), Wish("many"), Alike(), Bank]:
            self.each(BadKind, "Bank", thing, [], 2, 0)
            self.each(BadKind, "Bank", thing, None, None, None)

    def test_then_the_wishes(self):
        for thing in strangers() + [Wish("many"), a_question(), a_bank(), Alike()]:
            self.each(BadKind, "list", a_bank(), thing, 2, 0)
            self.each(BadKind, "list", a_bank(), thing, 0, None)
            self.each(BadWish, 1, a_bank(), [Wish("many"), thing if not isinstance(thing, Wish) else []], 2, 0)
            self.each(BadWish, 0, a_bank(), ([thing], thing), None, None)
        self.each(BadWish, 12, a_bank(), [Wish("many")] * 13, 2, 0)
        self.each(BadWish, 12, a_bank(), [Wish("many")] * 13 + [None], 0, -1)
        self.each(BadWish, 11, a_bank(), [Wish("many")] * 11 + [None, Wish("many")], 0, -1)

    def test_then_the_size(self):
        for thing in [0, 15, -1, 100, 10 ** 3999, -10 ** 3999, Alike()] + no_whole_numbers():
            self.each(NoPlace, thing, a_bank(), [], thing, 0)
            self.each(NoPlace, thing, plain_bank(some_names(15)), (), thing, None)

    def test_then_the_day(self):
        for thing in [-1, 10000, 10 ** 3999, Alike()] + no_whole_numbers():
            self.each(NoPlace, thing, a_bank(), [], 2, thing)
            self.each(NoPlace, thing, plain_bank(some_names(15)), [Wish("many")], 14, thing)

    def test_then_too_many(self):
        for many in (15, 16, 60):
            for size in (1, 2, 14):
                self.each(TooMany, 14, plain_bank(some_names(many)), [], size, 0)
                self.each(TooMany, 14, plain_bank(some_names(many)), [Wish("many")] * 12, size, 9999)

    def test_only_those_in_count(self):
        bank = plain_bank(some_names(60))
        for name in some_names(45):
            bank.taken_out(name)
        self.each(TooMany, 14, bank, [], 1, 0)
        bank.taken_out(bank.names_in()[0])
        for deed in PLAIN:
            deed(bank, [], 14, 0)

    def test_what_lies_on_the_bounds(self):
        for deed in PLAIN:
            for day in (0, 9999):
                deed(plain_bank(some_names(14)), [], 1, day)
                deed(plain_bank(some_names(14)), [Wish("many")] * 12, 14, day)
                deed(bank=plain_bank(some_names(3)), wishes=(), size=2, day=day)

    def test_what_is_refused_changes_nothing(self):
        bank = a_bank()
        wishes = [Wish("many"), None]
        self.each(BadWish, 1, bank, wishes, 2, 0)
        self.assertEqual(wishes, [Wish("many"), None])
        self.each(NoPlace, 15, bank, [], 15, 0)
        self.refused(NoPlace, [1], lot_sums, bank, [], 2, [1])
        self.assertEqual(bank, a_bank())


if __name__ == "__main__":
    unittest.main()
