"""The whole program: from a bank's text by a desk to papers, copies, keys, sittings, marks and toils."""

import unittest

from paperkin.banks import Bank
from paperkin.banktext import bank_of, bank_text, paper_of_text, wishes_of_text
from paperkin.copies import Copy, apart_numbers, meet_at
from paperkin.desk import Desk
from paperkin.joining import joined_banks
from paperkin.lotcheck import check_lot
from paperkin.lots import least_lot, lot_sums
from paperkin.making import first_paper
from paperkin.marking import marks_of, most_marks, ranked
from paperkin.rowcheck import check_row
from paperkin.rowproof import row_proof
from paperkin.rows import most_row
from paperkin.sheets import key_sheet, led_on, sheet_of, sheet_text
from paperkin.shelves import Shelf
from paperkin.sittings import Sitting
from paperkin.sums import lacking, sums_of
from paperkin.toils import asked_by, found_toil, move_toils, moved_toils
from tests.things import Case, chance, some_bank, some_wishes

TEXT = """question adds sums 3 2 twos
- 4
+ 5
- 6
question dates past 9 1 -
+ 1066
- 1077
- 1088
- 1099
question halves sums 4 3 twos
+ one
- two
question kings past 5 1 -
+ Otto
- Karl
used 4
question seas earth 1 9 -
- five
- six
+ seven"""
MORE = """question kings sums 5 5 -
- 1
+ 2
question oceans earth 2 2 -
+ seven
- five
- six
out too easy
used 9"""


class FromATextToToils(Case):
    def test_by_hand(self):
        desk = Desk()
        for line, told in (
            ("load\n" + TEXT, "5 questions"), ("join\n" + MORE, "6 questions; kings kingsa; oceans seas"),
            ("names", "adds dates halves kings kingsa"), ("wish kin 0 0", "done"), ("wish rest 5 0", "done"), ("day 8", "done"),
            ("paper 3", "adds dates kingsa"), ("paper 4", "unmet 0 1"), ("papers 2", "adds dates, halves kingsa"),
            ("in seas", "done"), ("paper 4", "adds dates kingsa seas"), ("copy 1 adds dates kingsa seas", "dates kingsa seas adds"),
            ("key 1 adds dates kingsa seas", "d b c a"), ("sums adds halves", "kin 0 0: 1, rest 5 0: 0"),
        ):
            self.assertEqual(desk.said(line), told, line)
        bank = bank_of(desk.said("show"))
        paper = paper_of_text(desk.said("paper 4"))
        sitting = Sitting(bank, paper, 8, "less")
        self.assertEqual(bank.days_of("seas"), [8, 9])
        self.assertEqual([sitting.handed(person).number for person in ("ann", "bob", "cid")], [0, 1, 2])
        self.assertEqual(sitting.given("ann", sheet_of(sitting.copy_of("ann"), "b a b c")), 17)
        self.assertEqual(sitting.given("bob", sheet_of(sitting.copy_of("bob"), "d b - b")), 5)
        self.assertEqual(sitting.given("cid", sheet_of(sitting.copy_of("cid"), "- - - -")), 0)
        self.assertEqual(str(sitting), "ann 17, bob 5, cid 0")
        self.assertEqual(sitting.found_wrong("adds", ("right", 2)), [("ann", 17, 14), ("bob", 5, 8)])
        self.assertEqual(asked_by([sitting], "adds"), (3, 1))
        self.assertEqual(found_toil([sitting], "adds"), 7)
        self.assertEqual(moved_toils(bank, [sitting], 2), {"adds": 5, "dates": 7, "kingsa": 4, "seas": 3})
        self.assertEqual(move_toils(bank, [sitting], 2), {"adds": 5, "dates": 7, "kingsa": 4, "seas": 3})
        self.assertEqual(desk.said("load\n" + bank_text(bank)), "6 questions")
        self.assertEqual(desk.said("sums adds dates"), "kin 0 0: 0, rest 5 0: 2")
        for _ in range(7):
            self.assertIn(desk.said("undo"), ("done", "gone"))
        self.assertEqual(desk, Desk())


class AgainstTheParts(Case):
    def some_desk(self, numbers):
        bank = some_bank(numbers, 9)
        wishes = some_wishes(numbers, 4)
        day = numbers.randint(0, 25)
        desk = Desk()
        desk.said("load\n" + bank_text(bank))
        for wish in wishes:
            self.assertEqual(desk.said("wish " + str(wish)), "done")
        desk.said("day " + str(day))
        self.assertEqual(wishes_of_text(desk.said("wishes").replace(", ", "\n")) if wishes else [], wishes)
        return desk, bank, wishes, day

    def check_papers(self, desk, bank, wishes, day, size):
        """The paper that a desk tells, or None where it tells why none fits."""
        told = desk.said("paper " + str(size))
        if not told.startswith("unmet"):
            paper = paper_of_text(told)
            self.assertEqual(paper, first_paper(bank, wishes, size, day))
            self.assertEqual(lacking(bank, paper, wishes, day), [])
            return paper
        lot = tuple(int(word) for word in told.split(" ")[1:])
        self.assertEqual(lot, least_lot(bank, wishes, size, day))
        self.assertIsNone(check_lot(bank, wishes, size, lot, lot_sums(bank, wishes, size, lot, day), day))
        return None

    def check_rows(self, desk, bank, wishes, day, size):
        row = most_row(bank, wishes, size, day)
        self.assertEqual(desk.said("papers " + str(size)), ", ".join(" ".join(paper) for paper in row) or "none")
        self.assertIsNone(check_row(bank, wishes, size, row, row_proof(bank, wishes, size, day), day))
        self.assertEqual(Shelf(bank, wishes, size, day).takes_row(), row)

    def check_sitting(self, numbers, desk, bank, paper):
        """Copies that a desk tells are sat, marked and ranked, and the toils move."""
        names = " ".join(paper)
        way = numbers.choice(("plain", "less", "whole"))
        sitting = Sitting(bank, paper, 5, way)
        for person in ("dan", "ann", "cid", "bob"):
            copy = sitting.handed(person)
            line = str(copy.number) + " " + names
            self.assertEqual(desk.said("copy " + line), str(copy))
            self.assertEqual(desk.said("key " + line), sheet_text(copy, key_sheet(copy)))
            answers = tuple(numbers.choice((None, 0, 0, 1)) for _ in paper)
            sheet = led_on(copy, answers)
            self.assertEqual(sitting.given(person, sheet), marks_of(copy, sheet, way))
        copies = {person: sitting.copy_of(person) for person in sitting.persons()}
        sheets = {person: sitting.sheet_by(person) for person in sitting.persons()}
        self.assertEqual(sitting.results(), ranked(copies, sheets, way))
        for person in copies:
            self.assertEqual(sitting.mended(person, key_sheet(copies[person]))[1], most_marks(copies[person]))
        told = move_toils(bank, [sitting], 8)
        self.assertEqual({name: bank.question(name).toil for name in told}, {name: 1 for name in told})
        self.assertEqual([bank.question(name).toil for name in paper], [1] * len(paper))

    def test_many_desks(self):
        numbers = chance(99)
        for _ in range(40):
            desk, bank, wishes, day = self.some_desk(numbers)
            self.assertEqual(str(desk), bank_text(bank))
            self.assertEqual(desk.said("names"), " ".join(bank.names_in()) or "none")
            size = numbers.randint(1, 4)
            paper = self.check_papers(desk, bank, wishes, day, size)
            if size > 1:
                self.check_rows(desk, bank, wishes, day, size)
            if paper is None:
                continue
            told = sums_of(bank, paper, wishes, day)
            line = "sums " + " ".join(paper)
            self.assertEqual(desk.said(line), ", ".join(text + ": " + str(told[text]) for text in told) or "none")
            self.check_sitting(numbers, desk, bank, paper)

    def test_joined_banks_by_a_desk(self):
        numbers = chance(98)
        for _ in range(30):
            one, other = some_bank(numbers, 8), some_bank(numbers, 8)
            desk = Desk(one)
            bank, names = joined_banks(one, other)
            told = "".join("; " + name + " " + names[name] for name in names if names[name] != name)
            self.assertEqual(desk.said("join\n" + bank_text(other)), str(len(bank.names())) + " questions" + told)
            self.assertEqual(str(desk), bank_text(bank))

    def test_copies_apart_have_other_questions_at_each_place(self):
        bank = bank_of(TEXT)
        copy = Copy(bank, tuple(bank.names()))
        copies = [Copy(bank, tuple(bank.names()), number) for number in apart_numbers(copy, 5)]
        for one in copies:
            self.assertEqual([meet_at(one, other) for other in copies].count([]), 4)
        self.assertEqual(Bank([copies[3].question_at(0)]).names(), ["kings"])


if __name__ == "__main__":
    unittest.main()
