"""Point [41], paperkin/rowproof.py: the ground that is told."""

import unittest

from paperkin.banks import Bank
from paperkin.making import fit_papers
from paperkin.rowcheck import check_row
from paperkin.rowproof import row_proof
from paperkin.rows import most_row
from paperkin.wishes import Wish
from tests import plainly
from tests.things import Case, a_question, chance, plain_bank, some_bank, some_names, some_wishes, wishes_of
from tests.test_rows import a_bank


class Told(Case):
    def told(self, ground, texts, size, day=0, aside=None, bank=None):
        bank = bank or a_bank()
        self.assertEqual(row_proof(bank, wishes_of(*texts), size, day, aside), ground)
        self.assertEqual(
            row_proof(aside=aside, day=day, size=size, wishes=tuple(wishes_of(*texts)), bank=bank), ground)

    def test_few(self):
        for texts, size, aside in (
            ((), 2, None), ((), 3, None), ((), 4, None), ((), 6, None), ((), 7, None), ((), 12, None),
            (("many 9 9",), 7, None), ((), 2, ["a"]), ((), 3, ["a", "b"]), ((), 2, list("abcde")), ((), 2, list("abcdef")),
            (("many sums 1 1",), 2, None), (("many 9 9",), 2, list("abcde")), (("with a 1 1",), 4, ()),
        ):
            self.told(("few",), texts, size, 0, aside)
        self.assertEqual(row_proof(Bank(), [], 2), ("few",))
        self.assertEqual(row_proof(a_bank(), [], 2), ("few",))

    def test_few_at_its_edge(self):
        # Five names are fewer than three times two; six aren't, so there it is another one.
        wishes = ("with a 0 0", "with c 0 0")
        bank = plain_bank("abcde")
        self.told(("few",), ("with a 0 1",), 2, bank=bank)
        bank = plain_bank("abcdef")
        self.told(("by", "a", ("few",), ()), wishes, 2, bank=bank)
        # Of MANY 0 so many names as the size are not few any more.
        self.told(("none",), ("many 9 9",), 6, bank=bank)
        self.told(("few",), ("many 9 9",), 7, bank=bank)

    def test_none(self):
        for texts, size, aside in (
            (("many 9 9",), 2, None), (("with x 1 1",), 2, None), (("many sums 3 3",), 2, None),
            (("many sums 2 2",), 2, ["a", "b"]), (("with a 1 1",), 2, ["a"]), (("toil 99 99",), 6, ("x",)),
        ):
            self.told(("none",), texts, size, 0, aside)

    def test_by(self):
        self.told(("by", "a", ("none",), (
            (("a", "b"), ("none",)), (("a", "c"), ("none",)), (("a", "d"), ("none",)), (("a", "e"), ("none",)),
            (("a", "f"), ("none",)),
        )), ("with a 1 1",), 2)
        self.told(("by", "a", ("few",), (
            (("a", "d"), ("by", "b", ("few",), ((("b", "e"), ("none",)),))),
            (("a", "e"), ("by", "b", ("few",), ((("b", "d"), ("none",)),))),
        )), ("many sums 1 1", "many past 1 1"), 2)
        self.told(("by", "a", ("few",), (
            (("a", "b"), ("none",)), (("a", "c"), ("none",)),
        )), ("many sums 2 2",), 2, 0, ["d", "e"])

    def test_by_a_name_that_no_paper_has(self):
        self.told(("by", "a", ("by", "b", ("by", "c", ("few",), ()), ()), ()), ("many sums 0 0", "many past 2 2"), 2)

    def test_each_name_in_turn(self):
        self.told(("by", "a", ("by", "b", ("by", "c", ("few",), (
            (("c", "f"), ("none",)),
        )), (
            (("b", "f"), ("none",)),
        )), (
            (("a", "f"), ("none",)),
        )), ("with f 1 1", "many sums 1 1"), 2)

    def test_the_day(self):
        wishes = [Wish("rest", "", 5, 0)]
        self.assertEqual(row_proof(a_bank(), wishes, 2), ("few",))
        self.assertEqual(row_proof(a_bank(), wishes, 2, 12), ("by", "a", ("few",), ()))
        self.assertEqual(row_proof(a_bank(), wishes, 2, day=12, aside=["a", "d"]), ("few",))

    def test_questions_that_are_out(self):
        bank = a_bank()
        self.assertEqual(row_proof(bank, wishes_of("with x 1 1"), 2), ("none",))
        bank.put_back("x")
        self.assertEqual(row_proof(bank, wishes_of("with x 1 1"), 2)[:2], ("by", "a"))
        self.assertEqual(row_proof(bank, wishes_of("with x 1 1"), 2, aside=["x"]), ("none",))

    def test_kinds(self):
        def asked(ground):
            self.assertIsInstance(ground, tuple)
            if ground[0] == "by":
                asked(ground[2])
                self.assertIsInstance(ground[3], tuple)
                for pair in ground[3]:
                    self.assertIsInstance(pair, tuple)
                    self.assertIsInstance(pair[0], tuple)
                    asked(pair[1])
        asked(row_proof(a_bank(), wishes_of("many sums 1 1", "many past 1 1"), 2))


class AgainstThePlainest(Case):
    def test_many_banks(self):
        numbers = chance(41)
        words = []
        for _ in range(200):
            bank = some_bank(numbers, 8)
            wishes = some_wishes(numbers, 3)
            size = numbers.randint(2, 4)
            day = numbers.randint(0, 25)
            aside = numbers.choice((None, [], [name for name in bank.names() if numbers.randint(0, 5) == 0]))
            before = (bank.twin(), list(wishes), aside and list(aside))
            names = plainly.names_left(bank, aside)
            papers = plainly.fits(bank, wishes, size, day, names)
            many = len(plainly.most_row(bank, wishes, size, day, aside))
            ground = plainly.ground(names, papers, size, many)
            self.assertEqual(row_proof(bank, wishes, size, day, aside), ground)
            self.assertIsNone(
                check_row(bank, wishes, size, most_row(bank, wishes, size, day, aside), ground, day, aside))
            words.append(ground[0])
            self.assertEqual((bank, wishes, aside), before)
        self.assertEqual(set(words), {"few", "none", "by"})


class AtTheBounds(Case):
    def test_twelve_in(self):
        names = some_names(12)
        bank = Bank([a_question(name, "sums" if at % 2 == 0 else "past", 1 + at % 9) for at, name in enumerate(names)])
        for size in range(2, 13):
            for texts in ((), ("many 13 13",), ("many sums 2 12",), ("toil 0 9",), ("with al 0 0",), ("with al 1 1",)):
                wishes = wishes_of(*texts)
                ground = row_proof(bank, wishes, size)
                self.assertIsNone(check_row(bank, wishes, size, most_row(bank, wishes, size), ground))
                if not texts:
                    self.assertEqual(ground, ("few",))
                if texts == ("many 13 13",):
                    self.assertEqual(ground, ("none",))

    def test_the_rows_are_the_papers_with_the_first_name(self):
        bank = plain_bank(some_names(12))
        wishes = wishes_of("with al 0 0")
        ground = row_proof(bank, wishes, 2)
        self.assertEqual(ground[:3], ("by", "aa", ("few",)))
        papers = fit_papers(bank, wishes, 2)
        self.assertEqual([paper for paper, _ in ground[3]], [paper for paper in papers if "aa" in paper])


if __name__ == "__main__":
    unittest.main()
