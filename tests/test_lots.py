"""Points [31] and [32], paperkin/lots.py: lots, their sums, and wishes in the way of others."""

import itertools
import unittest

from paperkin.banks import Bank
from paperkin.errors import NoPlace
from paperkin.lots import all_lots, in_the_way, least_lot, lot_sums
from paperkin.wishes import Wish
from tests import plainly
from tests.things import Alike, Case, chance, plain_bank, some_bank, some_names, some_wishes, strangers, wishes_of
from tests.test_making import a_bank


class LeastLot(Case):
    def test_none_where_some_paper_fits(self):
        for texts in ((), ("many 2 2",), ("with a 1 1", "many sums 0 1"), ("kin 1 1", "many past 0 0")):
            self.assertIsNone(least_lot(a_bank(), wishes_of(*texts), 2))
            self.assertEqual(all_lots(a_bank(), wishes_of(*texts), 2), [])

    def test_of_one_wish(self):
        self.assertEqual(least_lot(a_bank(), wishes_of("many 0 9", "with x 1 1", "with b 1 1"), 2), (1,))
        self.assertEqual(least_lot(a_bank(), wishes_of("toil 99 99"), 2), (0,))

    def test_of_several(self):
        texts = ("with a 1 1", "many 0 9", "with b 1 1", "with c 1 1")
        self.assertEqual(least_lot(a_bank(), wishes_of(*texts), 2), (0, 2, 3))
        self.assertEqual(least_lot(a_bank(), wishes_of("many sums 0 0", "with a 1 1"), 2), (0, 1))

    def test_of_as_many_the_first(self):
        texts = ("with a 1 1", "with b 1 1", "with c 1 1", "with d 1 1")
        self.assertEqual(least_lot(a_bank(), wishes_of(*texts), 2), (0, 1, 2))
        self.assertEqual(least_lot(a_bank(), wishes_of("many 0 9", "many 9 9", "many 8 9"), 2), (1,))
        texts = ("with a 1 1", "with b 1 1", "with c 0 0", "with c 1 1", "with b 0 0", "with a 0 0")
        self.assertEqual(least_lot(a_bank(), wishes_of(*texts), 2), (0, 5))

    def test_fewer_ahead_of_earlier(self):
        texts = ("with a 1 1", "with b 1 1", "with c 1 1", "many 9 9")
        self.assertEqual(least_lot(a_bank(), wishes_of(*texts), 2), (3,))

    def test_without_any_candidate(self):
        for wishes in ([], wishes_of("many 0 9"), wishes_of("many 9 9", "with x 1 1")):
            self.assertEqual(least_lot(a_bank(), wishes, 6), ())
            self.assertEqual(all_lots(a_bank(), wishes, 6), [()])
            self.assertEqual(lot_sums(a_bank(), wishes, 6, ()), ())
            self.assertEqual(least_lot(Bank(), wishes, 1), ())

    def test_on_a_day(self):
        wishes = wishes_of("with a 1 1", "rest 5 0")
        self.assertIsNone(least_lot(a_bank(), wishes, 2))
        self.assertIsNone(least_lot(a_bank(), wishes, 2, 15))
        self.assertEqual(least_lot(a_bank(), wishes, 2, 14), (0, 1))
        self.assertEqual(least_lot(day=10, size=2, wishes=tuple(wishes), bank=a_bank()), (0, 1))
        self.assertEqual(all_lots(a_bank(), wishes, 2, day=10), [(0, 1)])
        self.assertEqual(lot_sums(a_bank(), wishes, 2, (0, 1), 10), ((0, (0,)), (1, (1,))))
        self.assertEqual(in_the_way(a_bank(), wishes, 2, 10), [(0, 1)])
        self.assertEqual(in_the_way(a_bank(), wishes, 2), [])


class AllLots(Case):
    def test_in_their_order(self):
        texts = ("with a 1 1", "with b 1 1", "with c 1 1", "with d 1 1")
        told = all_lots(a_bank(), wishes_of(*texts), 2)
        self.assertEqual(told, [(0, 1, 2), (0, 1, 3), (0, 2, 3), (1, 2, 3)])
        self.assertIsInstance(told, list)
        self.assertIsInstance(told[0], tuple)
        texts = ("with a 1 1", "with b 1 1", "with c 1 1", "many past 0 0", "toil 99 99", "many 9 9", "many sums 1 1")
        self.assertEqual(all_lots(a_bank(), wishes_of(*texts), 2), [(4,), (5,), (1, 3), (0, 1, 2), (0, 2, 6)])
        self.assertEqual(all_lots(day=0, size=2, wishes=tuple(wishes_of(*texts)), bank=a_bank())[0], (4,))

    def test_of_alike_wishes_each(self):
        texts = ("many 9 9", "many 0 9", "many 9 9")
        self.assertEqual(all_lots(a_bank(), wishes_of(*texts), 2), [(0,), (2,)])
        texts = ("with a 1 1", "with a 0 0", "with a 1 1")
        self.assertEqual(all_lots(a_bank(), wishes_of(*texts), 2), [(0, 1), (1, 2)])


class LotSums(Case):
    def test_of_one_wish_in_all_candidates(self):
        wishes = wishes_of("many 0 9", "toil 1 3", "many sums 3 3")
        self.assertEqual(lot_sums(a_bank(), wishes, 2, (1,)), ((1, (4, 5, 6, 7, 8, 9, 10, 12, 13, 14)),))
        self.assertEqual(lot_sums(a_bank(), wishes, 2, (2,)), ((2, (0, 1, 2)),))

    def test_in_candidates_that_meet_the_others(self):
        wishes = wishes_of("many sums 2 2", "toil 8 99", "kin 0 0")
        self.assertEqual(lot_sums(a_bank(), wishes, 2, (0, 1)), ((0, (0, 1)), (1, (7,))))
        self.assertEqual(lot_sums(a_bank(), wishes, 2, (0, 2)), ((0, (0, 1)), (2, (1,))))
        self.assertEqual(lot_sums(bank=a_bank(), wishes=wishes, size=2, lot=(0, 2), day=3), ((0, (0, 1)), (2, (1,))))

    def test_of_lots_of_which_one_can_be_left_out(self):
        wishes = wishes_of("many sums 2 2", "toil 8 99", "kin 0 0", "many 9 9")
        self.assertEqual(lot_sums(a_bank(), wishes, 2, (0, 1, 2)), ((0, (0, 1)), (1, ()), (2, ())))
        self.assertEqual(lot_sums(a_bank(), wishes, 2, (0, 3)), ((0, ()), (3, (2,))))
        self.assertEqual(lot_sums(a_bank(), wishes, 6, (0, 3)), ((0, ()), (3, ())))
        self.assertEqual(lot_sums(a_bank(), wishes, 6, (3,)), ((3, ()),))

    def test_kinds(self):
        told = lot_sums(a_bank(), wishes_of("many sums 2 2", "toil 8 99"), 2, (0, 1))
        self.assertIsInstance(told, tuple)
        for pair in told:
            self.assertIsInstance(pair, tuple)
            self.assertIsInstance(pair[1], tuple)

    def test_what_is_no_lot(self):
        wishes = wishes_of("with a 1 1", "with b 1 1", "with c 1 1", "with a 0 0")
        for thing in strangers() + [
            [], [0, 3], [0, 1, 2], (3, 0), (0, 0, 3), (0, 3, 3), (1, 0, 2), (0, 4), (-1, 0, 3), (0, 3, 4), (0, 99),
            (), (0,), (3,), (0, 1), (1, 2), (1, 3), (2, 3), (1, 2, 3), (False, 3), (0, True, 2), ((0, 3),), ("0", "3"),
            (0, "3"), (0, None), (None,), ([0], 3), (0, {}), (0, [3]), (10 ** 3999,), (-10 ** 3999, 0), ("a",),
            (Alike(), 3), (0, Alike()), Alike(), Wish("many"), a_bank(), range(2), ((0,), (3,)),
        ]:
            self.refused(NoPlace, thing, lot_sums, a_bank(), wishes, 2, thing)
        for lot in ((0, 3), (0, 1, 2), (0, 1, 3), (0, 1, 2, 3)):
            self.assertEqual([number for number, _ in lot_sums(a_bank(), wishes, 2, lot)], list(lot))

    def test_where_some_paper_fits_nothing_is_a_lot(self):
        wishes = wishes_of("many 2 2", "with a 0 1")
        for lot in ((), (0,), (1,), (0, 1)):
            self.refused(NoPlace, lot, lot_sums, a_bank(), wishes, 2, lot)
        self.refused(NoPlace, (), lot_sums, a_bank(), [], 2, ())
        self.refused(NoPlace, (0,), lot_sums, a_bank(), [], 6, (0,))


class InTheWay(Case):
    def test_pairs(self):
        for texts, told in (
            (("with a 1 1", "with a 0 0"), [(0, 1)]),
            (("many sums 0 0", "with a 1 1", "with c 1 1", "with b 1 1"), [(0, 1), (0, 2)]),
            (("with c 1 1", "many sums 0 0", "kin k 1 1", "toil 0 9", "with b 1 1"), [(0, 1), (1, 2), (2, 4), (3, 4)]),
            ((), []), (("many 2 2",), []),
        ):
            self.assertEqual(in_the_way(a_bank(), wishes_of(*texts), 2), told)
            self.assertEqual(in_the_way(day=0, size=2, wishes=tuple(wishes_of(*texts)), bank=a_bank()), told)
        self.assertIsInstance(in_the_way(a_bank(), wishes_of("with a 1 1", "with a 0 0"), 2)[0], tuple)

    def test_not_where_some_candidate_meets_both(self):
        self.assertEqual(in_the_way(a_bank(), wishes_of("with a 1 1", "with b 1 1"), 2), [])
        self.assertEqual(in_the_way(a_bank(), wishes_of("with a 1 1", "with b 1 1"), 1), [(0, 1)])
        self.assertEqual(in_the_way(a_bank(), wishes_of("with a 1 1", "with a 1 1"), 1), [])

    def test_not_where_none_meets_one_of_them(self):
        self.assertEqual(in_the_way(a_bank(), wishes_of("with x 1 1", "with b 1 1"), 2), [])
        self.assertEqual(in_the_way(a_bank(), wishes_of("with b 1 1", "with x 1 1"), 2), [])
        self.assertEqual(in_the_way(a_bank(), wishes_of("many 9 9", "with x 1 1"), 2), [])
        self.assertEqual(in_the_way(a_bank(), wishes_of("with a 1 1", "with b 1 1"), 6), [])

    def test_rising(self):
        wishes = [Wish("with", name, 1, 1) for name in ("e", "c", "a", "d")]
        self.assertEqual(in_the_way(a_bank(), wishes, 1), [(0, 1), (0, 2), (0, 3), (1, 2), (1, 3), (2, 3)])


class AgainstThePlainest(Case):
    def test_many_banks(self):
        numbers = chance(31)
        for _ in range(150):
            bank = some_bank(numbers, 7)
            wishes = some_wishes(numbers, 5)
            size = numbers.randint(1, 4)
            day = numbers.randint(0, 25)
            before = (bank.twin(), list(wishes))
            lots = plainly.least_lots(bank, wishes, size, day)
            self.assertEqual(all_lots(bank, wishes, size, day), lots)
            self.assertEqual(least_lot(bank, wishes, size, day), lots[0] if lots else None)
            self.assertEqual(in_the_way(bank, wishes, size, day), plainly.in_the_way(bank, wishes, size, day))
            every = plainly.lots(bank, wishes, size, day)
            for many in range(len(wishes) + 1):
                for lot in itertools.combinations(range(len(wishes)), many):
                    if lot in every:
                        told = plainly.lot_sums(bank, wishes, size, lot, day)
                        self.assertEqual(lot_sums(bank, wishes, size, lot, day), told)
                    else:
                        self.refused(NoPlace, lot, lot_sums, bank, wishes, size, lot, day)
            self.assertEqual((bank, wishes), before)

    def test_what_is_told_is_the_askers_own(self):
        bank = a_bank()
        wishes = wishes_of("with a 1 1", "with a 0 0")
        lots = all_lots(bank, wishes, 2)
        pairs = in_the_way(bank, wishes, 2)
        bank.dropped("a")
        wishes.clear()
        self.assertEqual((lots, pairs), ([(0, 1)], [(0, 1)]))
        lots.clear()
        pairs.clear()
        self.assertEqual(all_lots(a_bank(), wishes_of("with a 1 1", "with a 0 0"), 2), [(0, 1)])
        self.assertEqual(in_the_way(a_bank(), wishes_of("with a 1 1", "with a 0 0"), 2), [(0, 1)])


class AtTheBounds(Case):
    def test_twelve_wishes_of_fourteen(self):
        names = some_names(14)
        bank = plain_bank(names)
        wishes = [Wish("with", name, 1, 1) for name in names[:12]]
        told = all_lots(bank, wishes, 7)
        self.assertEqual(told, list(itertools.combinations(range(12), 8)))
        self.assertEqual(least_lot(bank, wishes, 7), tuple(range(8)))
        self.assertEqual(lot_sums(bank, wishes, 7, told[-1]), tuple((number, (0,)) for number in range(4, 12)))
        self.assertEqual(in_the_way(bank, wishes, 7), [])
        self.assertEqual(len(in_the_way(bank, wishes, 1)), 66)
        self.assertEqual(all_lots(bank, wishes, 12), [])
        wishes = [Wish("many", "", number, number) for number in range(12)]
        self.assertEqual(all_lots(bank, wishes, 7), [(number,) for number in range(12) if number != 7])
        self.assertEqual(all_lots(bank, wishes, 13), [(number,) for number in range(12)])


if __name__ == "__main__":
    unittest.main()
