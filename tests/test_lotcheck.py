"""Point [31], paperkin/lotcheck.py: lots and sums that are checked."""

import itertools
import unittest

from paperkin.banks import Bank
from paperkin.errors import BadPaper
from paperkin.lotcheck import check_lot
from paperkin.lots import all_lots, lot_sums
from paperkin.wishes import Wish
from tests import plainly
from tests.things import (
    Alike, Case, chance, deep, no_whole_numbers, plain_bank, some_bank, some_names, some_wishes, strangers, wishes_of,
)
from tests.test_making import a_bank

# Of pairs of the bank: 0 and 1 stand in the way of one another; 4 none meets; 0, 2, 3 are one too many.
TEXTS = ("with a 1 1", "many sums 0 0", "with b 1 1", "with d 1 1", "toil 99 99", "many 0 9")
GOOD = (
    ((0, 1), ((0, (0,)), (1, (1, 2)))),
    ((0, 2, 3), ((0, (0,)), (2, (0,)), (3, (0,)))),
    ((4,), ((4, (4, 5, 6, 7, 8, 9, 10, 12, 13, 14)),)),
)


class Checked(Case):
    def lets_by(self, lot, sums, texts=TEXTS, size=2, day=0):
        self.assertIsNone(check_lot(a_bank(), wishes_of(*texts), size, lot, sums, day))

    def is_bad(self, at, lot, sums, texts=TEXTS, size=2, day=0):
        self.refused(BadPaper, at, check_lot, a_bank(), wishes_of(*texts), size, lot, sums, day)

    def test_what_is_let_by(self):
        for lot, sums in GOOD:
            self.lets_by(lot, sums)
        self.assertIsNone(
            check_lot(day=0, sums=GOOD[0][1], lot=GOOD[0][0], size=2, wishes=tuple(wishes_of(*TEXTS)), bank=a_bank()))
        self.assertIsNone(check_lot(a_bank(), wishes_of(*TEXTS), 2, *GOOD[1]))

    def test_a_lot_that_is_not_the_least(self):
        self.assertEqual(all_lots(a_bank(), wishes_of(*TEXTS), 2)[0], (4,))
        self.lets_by(*GOOD[0])

    def test_without_any_candidate(self):
        for texts in ((), TEXTS):
            self.lets_by((), (), texts, 6)
        self.is_bad(0, (0,), ((0, ()),), TEXTS, 6)
        self.is_bad(4, (4, 5), ((4, ()), (5, ())), TEXTS, 6)
        self.is_bad(0, (0,), ((0, (1,)),), TEXTS, 6)
        self.is_bad(None, (0,), (), TEXTS, 6)
        self.is_bad(None, (), ((0, ()),), TEXTS, 6)
        self.assertIsNone(check_lot(Bank(), [], 1, (), ()))

    def test_the_day(self):
        texts = ("with a 1 1", "rest 5 0")
        self.lets_by((0, 1), ((0, (0,)), (1, (1, 2))), texts, 2, 12)
        self.lets_by((0, 1), ((0, (0,)), (1, (1,))), texts, 2, 10)
        self.is_bad(1, (0, 1), ((0, (0,)), (1, (1, 2))), texts, 2, 10)
        self.is_bad(-1, (0, 1), ((0, (0,)), (1, (1, 2))), texts, 2, 15)
        self.refused(BadPaper, -1, check_lot, a_bank(), wishes_of(*texts), 2, (0, 1), ((0, ()), (1, ())))

    def test_no_rising_tuple_of_numbers(self):
        sums = GOOD[0][1]
        for thing in strangers() + [
            [0, 1], [], (1, 0), (0, 0), (0, 0, 1), (0, 6), (-1, 0), (-1, 0, 1), (6,), (False, 1), (0, True),
            (False, True), ("0", "1"), (0, None), (0, "1"), ((0, 1),), ([0], [1]), (0, [1]), (0, {}), (Alike(), 1),
            (0, Alike()), Alike(), (0, 10 ** 3999), deep(49), Wish("many"), a_bank(), range(2), ({}, {}),
        ]:
            self.is_bad(None, thing, sums)
            self.is_bad(None, thing, ())
            self.is_bad(None, thing, None)

    def test_no_tuple_of_as_many_pairs(self):
        lot = (0, 1)
        for thing in strangers() + [
            (), [], [(0, (0,)), (1, (1, 2))], ((0, (0,)),), ((1, (1, 2)),), ((0, (0,)), (1, (1, 2)), (2, (0,))),
            ((0, (0,)), (1, (1, 2)), (1, (1, 2))), ((1, (1, 2)), (0, (0,))), ((0, (0,)), (0, (0,))),
            ((0, (0,)), (2, (1, 2))), ([0, (0,)], (1, (1, 2))), ((0, (0,)), [1, (1, 2)]), ((0, [0]), (1, (1, 2))),
            ((0, (0,)), (1, [1, 2])), ((False, (0,)), (1, (1, 2))), ((0, (0,)), (True, (1, 2))),
            ((0, (False,)), (1, (1, 2))), ((0, (0,)), (1, (True, 2))), ((0, (0,)), (1, (1, "2"))),
            ((0, (0,)), (1, (1, None))), ((0, (0,)), (1, (1, (2,)))), ((0, 0), (1, (1, 2))), ((0, None), (1, (1, 2))),
            ((0,), (1,)), ((0, (0,), 1), (1, (1, 2))), ((0, (0,)), (1, (1, 2), ())), (0, 1), ((), ()), (None, None),
            (("0", (0,)), (1, (1, 2))), ((None, (0,)), (1, (1, 2))), ((Alike(), (0,)), (1, (1, 2))),
            ((0, (Alike(),)), (1, (1, 2))), ((0, Alike()), (1, (1, 2))), (Alike(), Alike()), Alike(), deep(49),
            {0: (0,), 1: (1, 2)}, ({0: (0,)}, {1: (1, 2)}), ("ab", "cd"), a_bank(), Wish("many"),
        ]:
            self.is_bad(None, lot, thing)
        for thing in no_whole_numbers():
            self.is_bad(None, lot, ((0, (0,)), (1, (1, thing))))
            self.is_bad(None, lot, ((thing, (0,)), (1, (1, 2))))
        for thing in [each for each in no_whole_numbers() if not isinstance(each, tuple)]:
            self.is_bad(None, lot, ((0, thing), (1, (1, 2))))

    def test_some_candidate_meets_all(self):
        for lot, sums in (
            ((), ()), ((0,), ((0, (0, 1)),)), ((1,), ((1, (0, 1, 2)),)), ((0, 2), ((0, (0, 1)), (2, (0, 1)))),
            ((0, 2, 5), ((0, ()), (2, ()), (5, ()))), ((5,), ((5, (2,)),)),
        ):
            self.is_bad(-1, lot, sums)
        self.is_bad(-1, (), (), (), 2)

    def test_the_first_that_could_be_left_out(self):
        for at, lot, sums in (
            (0, (0, 4), ((0, ()), (4, (4, 5, 6, 7, 8, 9, 10, 12)))),
            (5, (4, 5), ((4, (4, 5, 6, 7, 8, 9, 10, 12, 13, 14)), (5, ()))),
            (2, (0, 1, 2), ((0, (0,)), (1, (1,)), (2, ()))),
            (1, (1, 2, 4), ((1, ()), (2, ()), (4, (10, 14)))),
            (5, (0, 1, 5), ((0, (0,)), (1, (1, 2)), (5, ()))),
        ):
            self.is_bad(at, lot, sums)

    def test_sums_that_are_others(self):
        for at, lot, sums in (
            (0, (0, 1), ((0, ()), (1, (1, 2)))), (0, (0, 1), ((0, (0, 1)), (1, (1, 2)))),
            (0, (0, 1), ((0, (1,)), (1, (1, 2)))), (0, (0, 1), ((0, (0, 0)), (1, (1, 2)))),
            (1, (0, 1), ((0, (0,)), (1, (2, 1)))), (1, (0, 1), ((0, (0,)), (1, (1, 2, 2)))),
            (1, (0, 1), ((0, (0,)), (1, (1,)))), (1, (0, 1), ((0, (0,)), (1, (0, 1, 2)))),
            (1, (0, 1), ((0, (0,)), (1, (1, 2, 3)))), (1, (0, 1), ((0, (0,)), (1, (1, 3)))),
            (1, (0, 1), ((0, (0,)), (1, ()))), (1, (0, 1), ((0, (0,)), (1, (-1, 1, 2)))),
            (1, (0, 1), ((0, (0,)), (1, (1, 10 ** 3999)))), (0, (0, 1), ((0, (-10 ** 3999,)), (1, (1, 2)))),
            (3, (0, 2, 3), ((0, (0,)), (2, (0,)), (3, (1,)))), (4, (4,), ((4, (4, 5)),)),
        ):
            self.is_bad(at, lot, sums)

    def test_the_first_that_is_due(self):
        self.is_bad(None, (0,), ((0, (True,)),))
        self.is_bad(None, (0, 4), ((0, ()), (4, None)))
        self.is_bad(None, (0, 4), ((0, (7,)), (4, (7,)), (5, ())))
        self.is_bad(-1, (0, 2), ((0, (7, 3)), (2, ())))
        self.is_bad(0, (0, 1), ((0, (7,)), (1, (7,))))
        self.is_bad(1, (1, 2, 4), ((1, ()), (2, ()), (4, (7,))))
        self.is_bad(0, (0, 1, 5), ((0, (1,)), (1, (1, 2)), (5, ())))
        self.is_bad(1, (0, 1, 5), ((0, (0,)), (1, (1, 2, 3)), (5, ())))


class AgainstThePlainest(Case):
    def judged(self, bank, wishes, size, lot, sums, day):
        """What the document says of a lot and sums of the right form."""
        lots = plainly.lots(bank, wishes, size, day)
        if lot not in lots:
            return -1
        told = plainly.lot_sums(bank, wishes, size, lot, day)
        for at, number in enumerate(lot):
            if lot[:at] + lot[at + 1:] in lots or sums[at] != told[at]:
                return number
        return None

    def test_many_banks(self):
        numbers = chance(33)
        for _ in range(80):
            bank = some_bank(numbers, 7)
            wishes = some_wishes(numbers, 4)
            size = numbers.randint(1, 4)
            day = numbers.randint(0, 25)
            before = (bank.twin(), list(wishes))
            for many in range(len(wishes) + 1):
                for lot in itertools.combinations(range(len(wishes)), many):
                    sums = plainly.lot_sums(bank, wishes, size, lot, day)
                    if sums and numbers.randint(0, 2) == 0:
                        at = numbers.randint(0, len(sums) - 1)
                        changed = (lot[at], sums[at][1] + (numbers.randint(0, 99),))
                        sums = sums[:at] + (changed,) + sums[at + 1:]
                    at = self.judged(bank, wishes, size, lot, sums, day)
                    if at is None:
                        self.assertIsNone(check_lot(bank, wishes, size, lot, sums, day))
                    else:
                        self.refused(BadPaper, at, check_lot, bank, wishes, size, lot, sums, day)
            for lot in all_lots(bank, wishes, size, day):
                self.assertIsNone(check_lot(bank, wishes, size, lot, lot_sums(bank, wishes, size, lot, day), day))
            self.assertEqual((bank, wishes), before)

    def test_at_the_bounds(self):
        names = some_names(14)
        bank = plain_bank(names)
        wishes = [Wish("with", name, 1, 1) for name in names[:12]]
        sums = tuple((number, (0,)) for number in range(4, 12))
        self.assertIsNone(check_lot(bank, wishes, 7, tuple(range(4, 12)), sums))
        self.refused(BadPaper, -1, check_lot, bank, wishes, 7, tuple(range(5, 12)), sums[1:])
        self.refused(BadPaper, 0, check_lot, bank, wishes, 7, tuple(range(12)), tuple((at, ()) for at in range(12)))


if __name__ == "__main__":
    unittest.main()
