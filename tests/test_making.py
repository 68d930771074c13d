"""Point [30], paperkin/making.py: papers made by wishes."""

import unittest

from paperkin.banks import Bank
from paperkin.errors import Unmet
from paperkin.lots import least_lot, lot_sums
from paperkin.making import best_paper, first_paper, fit_papers
from paperkin.questions import Question
from paperkin.wishes import Wish
from tests import plainly
from tests.things import Case, a_question, chance, plain_bank, some_bank, some_names, some_wishes, wishes_of


def a_bank():
    bank = Bank([
        a_question("a", "sums", 3, 2, "k"), a_question("b", "past", 9, 1), a_question("c", "sums", 4, 5, "k"),
        a_question("d", "past", 1, 9, "l"), a_question("x", "sums", 1, 1), a_question("e", "earth", 5, 3, "l"),
    ])
    bank.taken_out("x")
    bank.used_on("a", 10)
    bank.used_on("d", 12)
    return bank


PAIRS = [
    ("a", "b"), ("a", "c"), ("a", "d"), ("a", "e"), ("b", "c"), ("b", "d"), ("b", "e"), ("c", "d"), ("c", "e"),
    ("d", "e"),
]


class FitPapers(Case):
    def test_without_wishes_all_candidates(self):
        for wishes in ([], ()):
            self.assertEqual(fit_papers(a_bank(), wishes, 2), PAIRS)
            self.assertEqual(fit_papers(a_bank(), wishes, 1), [("a",), ("b",), ("c",), ("d",), ("e",)])
            self.assertEqual(fit_papers(a_bank(), wishes, 5), [("a", "b", "c", "d", "e")])
            self.assertEqual(fit_papers(a_bank(), wishes, 4), [
                ("a", "b", "c", "d"), ("a", "b", "c", "e"), ("a", "b", "d", "e"), ("a", "c", "d", "e"),
                ("b", "c", "d", "e"),
            ])
        told = fit_papers(a_bank(), [], 2)
        self.assertIsInstance(told, list)
        self.assertIsInstance(told[0], tuple)

    def test_in_the_order_of_tuples_however_added(self):
        bank = plain_bank(["zz", "b", "ab", "a", "aa"])
        self.assertEqual(fit_papers(bank, [], 2), [
            ("a", "aa"), ("a", "ab"), ("a", "b"), ("a", "zz"), ("aa", "ab"), ("aa", "b"), ("aa", "zz"), ("ab", "b"),
            ("ab", "zz"), ("b", "zz"),
        ])

    def test_more_than_there_are(self):
        self.assertEqual(fit_papers(a_bank(), [], 6), [])
        self.assertEqual(fit_papers(a_bank(), [], 14), [])
        self.assertEqual(fit_papers(Bank(), [], 1), [])

    def test_of_those_that_are_in(self):
        bank = a_bank()
        self.assertNotIn(("a", "x"), fit_papers(bank, [], 2))
        bank.put_back("x")
        self.assertEqual(len(fit_papers(bank, [], 2)), 15)
        self.assertIn(("a", "x"), fit_papers(bank, [], 2))
        bank.taken_out("a")
        bank.dropped("b")
        self.assertEqual(fit_papers(bank, [], 3), [("c", "d", "e"), ("c", "d", "x"), ("c", "e", "x"), ("d", "e", "x")])

    def test_each_word_of_a_wish(self):
        for text, told in (
            ("many sums 2 2", [("a", "c")]),
            ("many 2 2", PAIRS),
            ("many 3 3", []),
            ("many sums 0 0", [("b", "d"), ("b", "e"), ("d", "e")]),
            ("many earth 1 9", [("a", "e"), ("b", "e"), ("c", "e"), ("d", "e")]),
            ("toil 12 13", [("a", "b"), ("b", "c")]),
            ("toil sums 7 7", [("a", "c")]),
            ("toil past 9 10", [("a", "b"), ("b", "c"), ("b", "d"), ("b", "e")]),
            ("marks 11 12", [("a", "d"), ("d", "e")]),
            ("marks sums 5 6", [("b", "c"), ("c", "d"), ("c", "e")]),
            ("kin 1 1", [("a", "c"), ("d", "e")]),
            ("kin k 1 1", [("a", "c")]),
            ("kin 0 0", [pair for pair in PAIRS if pair not in (("a", "c"), ("d", "e"))]),
            ("with d 1 1", [("a", "d"), ("b", "d"), ("c", "d"), ("d", "e")]),
            ("with d 0 0", [pair for pair in PAIRS if "d" not in pair]),
            ("with x 1 1", []),
            ("with zoo 0 0", PAIRS),
        ):
            self.assertEqual(fit_papers(a_bank(), wishes_of(text), 2), told, text)

    def test_rest_about_the_days_noted(self):
        neither = [("b", "c"), ("b", "e"), ("c", "e")]
        for day, rest, told in (
            (9, 5, PAIRS), (10, 5, [pair for pair in PAIRS if "a" not in pair]), (10, 0, PAIRS),
            (11, 1, PAIRS), (11, 2, [pair for pair in PAIRS if "a" not in pair]), (12, 3, neither),
            (12, 2, [pair for pair in PAIRS if "d" not in pair]), (14, 5, neither),
            (15, 5, [pair for pair in PAIRS if "d" not in pair]), (16, 5, [pair for pair in PAIRS if "d" not in pair]),
            (17, 5, PAIRS), (9999, 999, PAIRS),
        ):
            self.assertEqual(fit_papers(a_bank(), [Wish("rest", "", rest, 0)], 2, day), told, (day, rest))
        one = [pair for pair in PAIRS if pair != ("a", "d")]
        self.assertEqual(fit_papers(a_bank(), [Wish("rest", "", 5, 1)], 2, day=12), one)
        self.assertEqual(fit_papers(a_bank(), [Wish("rest", "", 5, 2)], 2, day=12), PAIRS)

    def test_day_is_nought_where_left_out(self):
        bank = a_bank()
        bank.used_on("b", 0)
        wish = Wish("rest", "", 5, 0)
        self.assertEqual(fit_papers(bank, [wish], 4), [("a", "c", "d", "e")])
        self.assertEqual(first_paper(bank, [wish], 4), ("a", "c", "d", "e"))
        self.assertEqual(best_paper(bank, [wish], 4), ("a", "c", "d", "e"))
        self.assertEqual(first_paper(bank, [wish], 3, 12), ("b", "c", "e"))
        self.assertEqual(best_paper(bank, [wish], 3, 12), ("b", "c", "e"))

    def test_several_wishes(self):
        wishes = wishes_of("many past 1 9", "kin 0 0", "toil 0 9", "with d 0 1")
        self.assertEqual(fit_papers(a_bank(), wishes, 2), [("a", "d"), ("c", "d")])
        self.assertEqual(fit_papers(a_bank(), tuple(wishes), 2), [("a", "d"), ("c", "d")])
        self.assertEqual(fit_papers(day=0, size=2, wishes=wishes, bank=a_bank()), [("a", "d"), ("c", "d")])
        self.assertEqual(fit_papers(a_bank(), wishes_of("many sums 2 2", "with b 1 1"), 2), [])

    def test_twelve_wishes(self):
        wishes = wishes_of("many 0 2", "many 1 3", "many 2 4", "toil 5 99", "toil 0 9", "marks 0 12", "marks 2 99",
                           "with b 0 0", "with c 0 0", "kin l 0 0", "rest 5 0", "with d 1 1")
        self.assertEqual(fit_papers(a_bank(), wishes, 2, 5), [])
        wishes[3] = Wish("toil", "", 4, 99)
        self.assertEqual(fit_papers(a_bank(), wishes, 2, 5), [("a", "d")])
        self.assertEqual(first_paper(a_bank(), wishes, 2, 5), ("a", "d"))

    def test_the_list_is_the_askers_own(self):
        bank = a_bank()
        wishes = wishes_of("many sums 1 9")
        told = fit_papers(bank, wishes, 1)
        self.assertEqual(told, [("a",), ("c",)])
        bank.dropped("a")
        wishes.clear()
        self.assertEqual(told, [("a",), ("c",)])
        told.clear()
        self.assertEqual(fit_papers(bank, wishes_of("many sums 1 9"), 1), [("c",)])


class FirstPaper(Case):
    def test_the_first(self):
        for size, texts, told in (
            (2, (), ("a", "b")), (2, ("with a 0 0",), ("b", "c")), (2, ("many past 2 2",), ("b", "d")),
            (1, ("marks 3 9",), ("c",)), (5, (), ("a", "b", "c", "d", "e")), (3, ("kin 1 1",), ("a", "b", "c")),
            (3, ("kin l 1 1",), ("a", "d", "e")),
        ):
            self.assertEqual(first_paper(a_bank(), wishes_of(*texts), size), told)
            self.assertEqual(first_paper(day=0, size=size, wishes=tuple(wishes_of(*texts)), bank=a_bank()), told)

    def test_unmet_with_the_least_lot_and_its_sums(self):
        for size, texts, lot, sums in (
            (2, ("many sums 3 3",), (0,), ((0, (0, 1, 2)),)),
            (2, ("many 0 9", "with a 1 1", "many sums 0 0"), (1, 2), ((1, (0,)), (2, (1, 2)))),
            (2, ("with a 1 1", "with b 1 1", "with d 1 1"), (0, 1, 2), ((0, (0,)), (1, (0,)), (2, (0,)))),
            (6, (), (), ()), (6, ("many 0 9",), (), ()), (7, ("many 9 9",), (), ()),
        ):
            for deed in (first_paper, best_paper):
                with self.assertRaises(Unmet) as caught:
                    deed(a_bank(), wishes_of(*texts), size)
                self.assertEqual((caught.exception.lot, caught.exception.sums), (lot, sums))
                self.assertIsInstance(caught.exception, LookupError)

    def test_unmet_on_a_day(self):
        wishes = wishes_of("with a 1 1", "rest 5 0")
        self.assertEqual(first_paper(a_bank(), wishes, 2, 9), ("a", "b"))
        for deed in (first_paper, best_paper):
            with self.assertRaises(Unmet) as caught:
                deed(a_bank(), wishes, 2, 12)
            self.assertEqual(caught.exception.lot, (0, 1))
            self.assertEqual(caught.exception.sums, ((0, (0,)), (1, (1, 2))))


class BestPaper(Case):
    def test_without_a_key_by_toil(self):
        for texts, told in (
            ((), ("a", "d")), (("with d 0 0",), ("a", "c")), (("many past 2 2",), ("b", "d")),
            (("with a 0 0", "kin 0 0"), ("c", "d")),
        ):
            self.assertEqual(best_paper(a_bank(), wishes_of(*texts), 2), told)
            self.assertEqual(best_paper(a_bank(), wishes_of(*texts), 2, 0, None), told)
            self.assertEqual(best_paper(bank=a_bank(), wishes=wishes_of(*texts), size=2, key=None), told)

    def test_with_a_key(self):
        def most_marks(questions):
            return -sum(each.marks for each in questions)
        self.assertEqual(best_paper(a_bank(), [], 2, 0, most_marks), ("c", "d"))
        self.assertEqual(best_paper(a_bank(), wishes_of("with c 0 0"), 2, key=most_marks), ("d", "e"))
        self.assertEqual(best_paper(a_bank(), [], 1, key=lambda questions: questions[0].marks), ("b",))
        self.assertEqual(best_paper(a_bank(), [], 1, key=lambda questions: 10 ** 3000 - questions[0].marks), ("d",))

    def test_of_keys_that_are_alike_the_first(self):
        self.assertEqual(best_paper(a_bank(), wishes_of("with a 0 0"), 2, key=lambda questions: 7), ("b", "c"))
        self.assertEqual(best_paper(a_bank(), [], 2, key=lambda questions: -len(questions)), ("a", "b"))
        self.assertEqual(best_paper(a_bank(), [], 2, key=lambda questions: -(questions[0].name != "a")), ("b", "c"))
        self.assertEqual(best_paper(plain_bank("fbdac"), [], 3), ("a", "b", "c"))
        bank = Bank([a_question("a", toil=4), a_question("b", toil=2), a_question("c", toil=4), a_question("d", toil=2)])
        self.assertEqual(best_paper(bank, [], 1), ("b",))

    def test_what_the_key_is_asked_of(self):
        asked = []

        def key(questions):
            self.assertIsInstance(questions, list)
            for question in questions:
                self.assertIsInstance(question, Question)
            asked.append(questions)
            return 1
        bank = a_bank()
        best_paper(bank, wishes_of("with a 1 1"), 3, key=key)
        names = [[each.name for each in questions] for questions in asked]
        self.assertEqual(names, [list(paper) for paper in fit_papers(bank, wishes_of("with a 1 1"), 3)])
        self.assertEqual(asked[0], [bank.question("a"), bank.question("b"), bank.question("c")])
        self.assertEqual(len({id(questions) for questions in asked}), len(asked))

    def test_a_key_that_changes_its_list_changes_nothing(self):
        def key(questions):
            worth = sum(each.toil for each in questions)
            questions.clear()
            questions.append(None)
            return worth
        bank = a_bank()
        self.assertEqual(best_paper(bank, [], 2, key=key), ("a", "d"))
        self.assertEqual(bank, a_bank())
        self.assertEqual(best_paper(bank, [], 3, key=key), best_paper(bank, [], 3))

    def test_a_key_that_leads_the_bank(self):
        bank = a_bank()

        def key(questions):
            for name in bank.names():
                bank.dropped(name)
            return sum(each.toil for each in questions)
        self.assertEqual(best_paper(bank, [], 2, key=key), ("a", "d"))

    def test_where_none_fits_the_key_is_not_asked(self):
        asked = []
        with self.assertRaises(Unmet):
            best_paper(a_bank(), wishes_of("many 9 9"), 2, key=lambda questions: asked.append(1) or 0)
        self.assertEqual(asked, [])


class AgainstThePlainest(Case):
    def test_many_banks(self):
        numbers = chance(30)
        for _ in range(150):
            bank = some_bank(numbers, 8)
            wishes = some_wishes(numbers, 4)
            size = numbers.randint(1, 5)
            day = numbers.randint(0, 25)
            before = (bank.twin(), list(wishes))
            papers = plainly.fits(bank, wishes, size, day)
            self.assertEqual(fit_papers(bank, wishes, size, day), papers)
            if papers:
                self.assertEqual(first_paper(bank, wishes, size, day), papers[0])

                def toil(paper):
                    return sum(bank.question(name).toil for name in paper)
                self.assertEqual(best_paper(bank, wishes, size, day), min(papers, key=toil))
            else:
                lot = plainly.least_lots(bank, wishes, size, day)[0]
                for deed in (first_paper, best_paper):
                    with self.assertRaises(Unmet) as caught:
                        deed(bank, wishes, size, day)
                    self.assertEqual(caught.exception.lot, lot)
                    self.assertEqual(caught.exception.sums, plainly.lot_sums(bank, wishes, size, lot, day))
                    self.assertEqual(caught.exception.lot, least_lot(bank, wishes, size, day))
                    self.assertEqual(caught.exception.sums, lot_sums(bank, wishes, size, lot, day))
            self.assertEqual((bank, wishes), before)


class AtTheBounds(Case):
    def test_fourteen_in(self):
        names = some_names(20)
        bank = plain_bank(names)
        for name in names[:6]:
            bank.taken_out(name)
        self.assertEqual(fit_papers(bank, [], 14), [tuple(names[6:])])
        self.assertEqual(len(fit_papers(bank, [], 1)), 14)
        self.assertEqual(len(fit_papers(bank, [], 13)), 14)
        papers = fit_papers(bank, [], 7)
        self.assertEqual(len(papers), 3432)
        self.assertEqual(papers, sorted(papers))
        self.assertEqual(best_paper(bank, [], 7), tuple(names[6:13]))

    def test_twelve_wishes_of_fourteen(self):
        names = some_names(14)
        bank = plain_bank(names)
        wishes = [Wish("with", name, 1, 1) for name in names[:7]] + [Wish("with", name, 0, 0) for name in names[9:]]
        self.assertEqual(fit_papers(bank, wishes, 7), [tuple(names[:7])])
        self.assertEqual(fit_papers(bank, wishes, 8), [tuple(names[:8]), tuple(names[:7] + names[8:9])])
        with self.assertRaises(Unmet) as caught:
            first_paper(bank, wishes, 6)
        self.assertEqual(caught.exception.lot, (0, 1, 2, 3, 4, 5, 6))
        self.assertEqual(caught.exception.sums, tuple((number, (0,)) for number in range(7)))


if __name__ == "__main__":
    unittest.main()
