"""Point [30] at its bounds: fourteen questions IN (twelve for rows), each size, in a time that goes by the candidates."""

import itertools
import math
import time
import unittest

from paperkin.banks import Bank
from paperkin.errors import BadPaper, Unmet
from paperkin.lotcheck import check_lot
from paperkin.lots import all_lots, in_the_way, least_lot, lot_sums
from paperkin.making import best_paper, first_paper, fit_papers
from paperkin.questions import Question
from paperkin.rowcheck import check_row
from paperkin.rowproof import row_proof
from paperkin.rows import most_row, scarce_names
from paperkin.shelves import Shelf
from paperkin.wishes import Wish
from tests import plainly
from tests.things import Case, a_question, wishes_of

NAMES = "abcdefghijklmn"


def fourteen():
    return Bank([Question(name, "sums", ("yes", "no")) for name in NAMES])


def mixed(many):
    """So many questions that aren't alike, some used."""
    bank = Bank()
    for number, name in enumerate(NAMES[:many]):
        matter = ("sums", "past", "earth")[number % 3]
        bank.added(a_question(name, matter, 1 + number * 5 % 9, 1 + number * 7 % 9, ("", "k", "l", "k")[number % 4]))
        if number % 3 == 1:
            bank.used_on(name, 10 + number)
    return bank


def seconds(deed, times):
    """How long a deed takes that often, in the calmest of several tries."""
    found = []
    for _ in range(5):
        start = time.perf_counter()
        for _ in range(times):
            deed()
        found.append(time.perf_counter() - start)
    return min(found)


class EachSize(Case):
    def test_without_wishes(self):
        bank = fourteen()
        for size in range(1, 15):
            papers = list(itertools.combinations(NAMES, size))
            self.assertEqual(len(papers), math.comb(14, size))
            self.assertEqual(fit_papers(bank, [], size), papers)
            self.assertEqual(first_paper(bank, [], size), papers[0])
            self.assertEqual(best_paper(bank, [], size), papers[0])
            self.assertIsNone(least_lot(bank, [], size))
            self.assertEqual(all_lots(bank, [], size), [])
            self.assertEqual(in_the_way(bank, [], size), [])
            self.refused(BadPaper, -1, check_lot, bank, [], size, (), ())

    def test_with_wishes_that_some_meet(self):
        bank = mixed(14)
        for size in range(1, 15):
            for wishes in (wishes_of("rest 5 4"), wishes_of("many sums 0 4", "with b 0 1", "kin k 0 6", "marks 0 60")):
                papers = plainly.fits(bank, wishes, size, 15)
                self.assertEqual(fit_papers(bank, wishes, size, 15), papers)
                self.assertEqual(papers, sorted(papers))
                if papers:
                    self.assertEqual(first_paper(bank, wishes, size, 15), papers[0])
                    self.assertIsNone(least_lot(bank, wishes, size, 15))

    def test_with_wishes_that_none_meets(self):
        bank = mixed(14)
        wishes = wishes_of("with a 1 1", "many sums 0 0", "toil 0 80", "many past 1 2", "with e 0 0", "kin 9 99")
        for size in range(1, 15):
            lots = plainly.least_lots(bank, wishes, size, 15)
            sums = plainly.lot_sums(bank, wishes, size, lots[0], 15)
            self.assertEqual(fit_papers(bank, wishes, size, 15), [])
            self.assertEqual(all_lots(bank, wishes, size, 15), lots)
            self.assertEqual(least_lot(bank, wishes, size, 15), lots[0])
            self.assertEqual(lot_sums(bank, wishes, size, lots[0], 15), sums)
            self.assertEqual(in_the_way(bank, wishes, size, 15), plainly.in_the_way(bank, wishes, size, 15))
            self.assertIsNone(check_lot(bank, wishes, size, lots[0], sums, 15))
            with self.assertRaises(Unmet) as caught:
                first_paper(bank, wishes, size, 15)
            self.assertEqual((caught.exception.lot, caught.exception.sums), (lots[0], sums))

    def test_rows_of_twelve(self):
        bank = mixed(12)
        for size in range(6, 13):
            for wishes in ([], wishes_of("many sums 2 4", "with a 1 1")):
                row = plainly.most_row(bank, wishes, size, 15)
                self.assertEqual(most_row(bank, wishes, size, 15), row)
                papers = plainly.fits(bank, wishes, size, 15)
                ground = plainly.ground(list(NAMES[:12]), papers, size, len(row))
                self.assertEqual(row_proof(bank, wishes, size, 15), ground)
                self.assertIsNone(check_row(bank, wishes, size, row, ground, 15))
                self.assertEqual(Shelf(bank, wishes, size, 15).row_more(), row)


class InTime(Case):
    def test_a_hundred_calls_of_one_candidate(self):
        bank = fourteen()

        def check():
            with self.assertRaises(BadPaper):
                check_lot(bank, [], 14, (), ())
        for deed in (
            lambda: fit_papers(bank, [], 14), lambda: first_paper(bank, [], 14), lambda: best_paper(bank, [], 14),
            lambda: least_lot(bank, [], 14), lambda: all_lots(bank, [], 14), lambda: in_the_way(bank, [], 14), check,
        ):
            self.assertLess(seconds(deed, 100), 0.1)

    def test_a_hundred_calls_of_few_candidates(self):
        bank = fourteen()
        for size in (12, 13):
            self.assertLess(seconds(lambda: fit_papers(bank, [], size), 100), 0.1)

    def test_a_hundred_calls_with_twelve_wishes(self):
        bank = fourteen()
        wishes = [Wish("with", name, 0, 0) for name in NAMES[:12]]
        lot = ((0, (1,)),)
        for deed in (
            lambda: fit_papers(bank, wishes, 14), lambda: least_lot(bank, wishes, 14), lambda: all_lots(bank, wishes, 14),
            lambda: in_the_way(bank, wishes, 14), lambda: lot_sums(bank, wishes, 14, (0,)),
            lambda: check_lot(bank, wishes, 14, (0,), lot),
        ):
            self.assertLess(seconds(deed, 100), 0.2)

    def test_a_hundred_rows_of_one_candidate(self):
        bank = Bank([Question(name, "sums", ("yes", "no")) for name in NAMES[:12]])
        row = most_row(bank, [], 12)
        proof = row_proof(bank, [], 12)
        for deed in (
            lambda: most_row(bank, [], 12), lambda: scarce_names(bank, [], 12), lambda: row_proof(bank, [], 12),
            lambda: check_row(bank, [], 12, row, proof), lambda: Shelf(bank, [], 12),
        ):
            self.assertLess(seconds(deed, 100), 0.1)


if __name__ == "__main__":
    unittest.main()
