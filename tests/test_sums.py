"""Point [21], paperkin/sums.py: the sums of papers, and the wishes that they meet."""

import unittest

from paperkin.banks import Bank
from paperkin.errors import BadKind, BadPaper, BadWish, NoPlace
from paperkin.sums import lacking, meets, sum_by, sums_of
from paperkin.wishes import Wish, wish_of
from tests import plainly
from tests.things import a_question, chance, no_whole_numbers, some_bank, some_names, some_wishes, strangers

PAPER = ("adds", "dates", "halves", "kings", "mul", "seas")


def a_bank():
    bank = Bank([
        a_question("adds", "sums", 3, 2, "twos"), a_question("dates", "past", 9, 1, "k"),
        a_question("halves", "sums", 4, 5, "twos"), a_question("kings", "past", 1, 9, "k"),
        a_question("mul", "sums", 7, 1, "twos"), a_question("seas", "earth", 5, 3),
        a_question("wars", "past", 8, 8, "k"), a_question("wrong", "sums", 6, 6, "twos"),
    ])
    bank.taken_out("wrong")
    bank.used_on("adds", 100)
    bank.used_on("adds", 110)
    bank.used_on("mul", 105)
    bank.used_on("seas", 200)
    bank.used_on("wars", 105)
    return bank


ALL_FOUR = (
    (sum_by, Wish("many")), (meets, Wish("many")), (lacking, [Wish("many")]), (sums_of, [Wish("many")]),
)


class SumBy(unittest.TestCase):
    def sums(self, *rows):
        bank = a_bank()
        for text, paper, told in rows:
            self.assertEqual(sum_by(bank, paper, wish_of(text)), told, text)
        self.assertEqual(bank, a_bank())

    def test_many(self):
        self.sums(
            ("many 0 0", PAPER, 6), ("many sums 0 0", PAPER, 3), ("many past 1 1", PAPER, 2), ("many earth 0 9", PAPER, 1),
            ("many none 0 9", PAPER, 0), ("many 0 0", ("seas",), 1), ("many sums 0 0", ("seas",), 0),
            ("many twos 0 0", PAPER, 0), ("many adds 0 0", PAPER, 0),
        )

    def test_toil(self):
        self.sums(
            ("toil 0 0", PAPER, 29), ("toil sums 0 0", PAPER, 14), ("toil past 0 0", PAPER, 10),
            ("toil earth 0 0", PAPER, 5), ("toil none 0 0", PAPER, 0), ("toil 0 0", ("adds", "mul"), 10),
        )

    def test_marks(self):
        self.sums(
            ("marks 0 0", PAPER, 21), ("marks sums 0 0", PAPER, 8), ("marks past 0 0", PAPER, 10),
            ("marks earth 0 0", PAPER, 3), ("marks none 0 0", PAPER, 0), ("marks 0 0", ("kings", "wars"), 17),
        )

    def test_kin(self):
        self.sums(
            ("kin 0 0", PAPER, 4), ("kin twos 0 0", PAPER, 3), ("kin k 0 0", PAPER, 1), ("kin none 0 0", PAPER, 0),
            ("kin 0 0", ("adds", "dates", "seas"), 0), ("kin k 0 0", ("dates", "kings", "wars"), 3),
            ("kin 0 0", ("adds", "dates", "halves", "kings", "mul", "seas", "wars"), 6), ("kin 0 0", ("seas",), 0),
            ("kin sums 0 0", PAPER, 0),
        )

    def test_without_kin_none_are(self):
        bank = Bank([a_question("a"), a_question("b"), a_question("c", kin="a"), a_question("d", kin="a")])
        self.assertEqual(sum_by(bank, ("a", "b"), Wish("kin")), 0)
        self.assertEqual(sum_by(bank, ("a", "b", "c"), Wish("kin")), 0)
        self.assertEqual(sum_by(bank, ("a", "b", "c", "d"), Wish("kin", "a")), 1)

    def test_with(self):
        self.sums(
            ("with adds 0 0", PAPER, 1), ("with seas 0 0", PAPER, 1), ("with wars 0 0", PAPER, 0),
            ("with nobody 1 1", PAPER, 0), ("with sums 1 1", PAPER, 0), ("with wrong 1 1", PAPER, 0),
            ("with add 1 1", PAPER, 0),
        )

    def test_rest(self):
        for day, least, told in (
            (99, 999, 0), (100, 0, 0), (100, 1, 1), (101, 1, 0), (101, 2, 1), (105, 1, 1), (105, 5, 1), (105, 6, 2),
            (109, 5, 1), (109, 4, 0), (109, 9, 1), (109, 10, 2), (110, 1, 1), (110, 5, 1), (110, 6, 2), (120, 10, 0),
            (120, 11, 1), (120, 15, 1), (120, 16, 2), (200, 1, 1), (200, 91, 2), (200, 96, 3), (9999, 999, 0),
            (1103, 999, 3), (1104, 999, 2), (1109, 999, 1), (1199, 999, 0), (0, 999, 0),
        ):
            for most in (0, 3, 999):
                self.assertEqual(sum_by(a_bank(), PAPER, Wish("rest", "", least, most), day), told, (day, least))

    def test_day_is_nought_where_left_out(self):
        bank = a_bank()
        bank.used_on("kings", 0)
        bank.used_on("dates", 1)
        wish = Wish("rest", "", 5, 0)
        self.assertEqual(sum_by(bank, PAPER, wish), 1)
        self.assertEqual(sum_by(bank, PAPER, wish, 1), 2)
        self.assertEqual(sum_by(day=1, wish=wish, paper=PAPER, bank=bank), 2)
        self.assertIs(meets(bank, PAPER, Wish("rest", "", 5, 1)), True)
        self.assertIs(meets(bank, PAPER, Wish("rest", "", 5, 1), 1), False)
        self.assertEqual(lacking(bank, PAPER, [Wish("rest", "", 5, 0)]), [(0, 1)])
        self.assertEqual(lacking(bank, PAPER, [Wish("rest", "", 5, 0)], day=1), [(0, 2)])
        self.assertEqual(sums_of(bank, PAPER, [Wish("rest", "", 5, 0)]), {"rest 5 0": 1})
        self.assertEqual(sums_of(bank, PAPER, [Wish("rest", "", 5, 0)], day=1), {"rest 5 0": 2})

    def test_other_sums_do_not_ask_for_the_day(self):
        for text, told in (("many sums 0 0", 3), ("toil 0 0", 29), ("marks 0 0", 21), ("kin 0 0", 4), ("with adds 0 0", 1)):
            for day in (0, 100, 9999):
                self.assertEqual(sum_by(a_bank(), PAPER, wish_of(text), day), told)

    def test_the_bank_as_it_is(self):
        bank = a_bank()
        bank.put(a_question("adds", "past", 9, 9, "k"))
        self.assertEqual(sum_by(bank, PAPER, wish_of("many sums 0 0")), 2)
        self.assertEqual(sum_by(bank, PAPER, wish_of("toil past 0 0")), 19)
        self.assertEqual(sum_by(bank, PAPER, wish_of("kin k 0 0")), 3)


class Meets(unittest.TestCase):
    def test_at_the_bounds_and_by_one_off(self):
        for word, what, total in (
            ("many", "", 6), ("many", "sums", 3), ("toil", "", 29), ("toil", "past", 10), ("marks", "", 21),
            ("marks", "sums", 8), ("kin", "", 4), ("kin", "twos", 3), ("with", "adds", 1),
        ):
            for least, most, told in (
                (total, total, True), (total - 1, total, True), (total, total + 1, True), (0, 999, True),
                (total + 1, total + 1, False), (total - 1, total - 1, False), (total + 1, 999, False),
                (0, total - 1, False),
            ):
                self.assertIs(meets(a_bank(), PAPER, Wish(word, what, least, most)), told, (word, what, least, most))

    def test_of_rest_by_most_alone(self):
        for least, most, told in (
            (6, 2, True), (6, 1, False), (6, 0, False), (6, 3, True), (6, 999, True), (999, 1, False), (999, 2, True),
            (5, 1, True), (5, 0, False), (0, 0, True),
        ):
            self.assertIs(meets(a_bank(), PAPER, Wish("rest", "", least, most), 105), told, (least, most))

    def test_no_two_kin_and_without(self):
        for paper, text, told in (
            (PAPER, "kin 0 0", False), (("adds", "dates", "seas"), "kin 0 0", True), (PAPER, "with adds 0 0", False),
            (PAPER, "with wars 0 0", True), (PAPER, "with wars 1 1", False), (PAPER, "with adds 1 1", True),
            (("adds", "dates", "mul"), "kin k 0 0", True), (("adds", "dates", "mul"), "kin twos 0 0", False),
        ):
            self.assertIs(meets(a_bank(), paper, wish_of(text)), told, text)
        self.assertIs(meets(day=0, wish=Wish("many"), paper=PAPER, bank=a_bank()), True)


class Lacking(unittest.TestCase):
    def test_none(self):
        for wishes in ([], ()):
            self.assertEqual(lacking(a_bank(), PAPER, wishes), [])
            self.assertEqual(sums_of(a_bank(), PAPER, wishes), {})

    def test_some(self):
        wishes = [wish_of(text) for text in (
            "many 6 6", "many sums 4 9", "toil 0 28", "kin 0 4", "rest 6 1", "with wars 1 1", "many sums 4 9",
        )]
        told = [(1, 3), (2, 29), (4, 2), (5, 0), (6, 3)]
        bank = a_bank()
        before = list(wishes)
        self.assertEqual(lacking(bank, PAPER, wishes, 105), told)
        self.assertEqual(lacking(bank, PAPER, tuple(wishes), 105), told)
        self.assertEqual(lacking(day=105, wishes=wishes, paper=PAPER, bank=bank), told)
        self.assertIsInstance(lacking(bank, PAPER, wishes)[0], tuple)
        self.assertEqual(lacking(bank, PAPER, wishes), [(1, 3), (2, 29), (5, 0), (6, 3)])
        self.assertEqual(wishes, before)
        self.assertEqual(bank, a_bank())

    def test_twelve(self):
        wishes = [Wish("many", "", number, number) for number in range(12)]
        self.assertEqual(lacking(a_bank(), PAPER, wishes), [(number, 6) for number in range(12) if number != 6])
        self.assertEqual(len(sums_of(a_bank(), PAPER, wishes)), 12)

    def test_the_list_is_the_askers_own(self):
        bank = a_bank()
        wishes = [Wish("many", "", 9, 9)]
        told = lacking(bank, PAPER, wishes)
        sums = sums_of(bank, PAPER, wishes)
        bank.dropped("adds")
        wishes.clear()
        self.assertEqual(told, [(0, 6)])
        self.assertEqual(sums, {"many 9 9": 6})
        told.clear()
        sums.clear()
        self.assertEqual(bank.names()[0], "dates")


class SumsOf(unittest.TestCase):
    def test_in_their_order(self):
        texts = ("toil 0 28", "many sums 4 9", "with wars 1 1", "rest 6 1", "kin 0 4", "many sums 4 8")
        wishes = [wish_of(text) for text in texts]
        told = list(zip(texts, (29, 3, 0, 2, 4, 3)))
        self.assertEqual(list(sums_of(a_bank(), PAPER, wishes, 105).items()), told)
        self.assertEqual(list(sums_of(a_bank(), PAPER, tuple(wishes), 105).items()), told)
        self.assertEqual(list(sums_of(day=105, wishes=wishes, paper=PAPER, bank=a_bank()).items()), told)

    def test_alike_ones_stand_once(self):
        texts = ("many sums 0 9", "toil 0 9", "many sums 0 9", "marks 0 9", "toil 0 9")
        told = sums_of(a_bank(), PAPER, [wish_of(text) for text in texts])
        self.assertIsInstance(told, dict)
        self.assertEqual(list(told.items()), [("many sums 0 9", 3), ("toil 0 9", 29), ("marks 0 9", 21)])


class AgainstThePlainest(unittest.TestCase):
    def test_many_banks(self):
        numbers = chance(21)
        for _ in range(300):
            bank = some_bank(numbers, 9)
            names = bank.names_in()
            if not names:
                continue
            paper = tuple(sorted(numbers.sample(names, numbers.randint(1, len(names)))))
            wishes = some_wishes(numbers, 12)
            day = numbers.randint(0, 25)
            told = [plainly.sum_of(bank, paper, wish, day) for wish in wishes]
            met = [plainly.meets(bank, paper, wish, day) for wish in wishes]
            self.assertEqual([sum_by(bank, paper, wish, day) for wish in wishes], told)
            self.assertEqual([meets(bank, paper, wish, day) for wish in wishes], met)
            unmet = [(number, total) for number, total in enumerate(told) if not met[number]]
            self.assertEqual(lacking(bank, paper, wishes, day), unmet)
            by_text = {str(wish): total for wish, total in zip(wishes, told)}
            self.assertEqual(list(sums_of(bank, paper, wishes, day).items()), list(by_text.items()))

    def test_forty_questions_used_on_many_days(self):
        names = some_names(40)
        bank = Bank([a_question(name, kin="k") for name in names])
        for name in names[:20]:
            for day in range(0, 400, 7):
                bank.used_on(name, day)
        paper = tuple(names)
        self.assertEqual(sum_by(bank, paper, Wish("kin")), 780)
        for day, rest, told in ((100, 2, 0), (100, 3, 20), (5000, 999, 0), (1398, 999, 0), (1397, 999, 20), (0, 1, 20)):
            self.assertEqual(sum_by(bank, paper, Wish("rest", "", rest), day), told, day)


class Refused(unittest.TestCase):
    def refused(self, error, field, value, deed, *told):
        with self.assertRaises(error, msg=repr(told)[:80]) as caught:
            deed(*told)
        self.assertEqual(getattr(caught.exception, field), value)

    def test_no_bank_first(self):
        for deed, wish in ALL_FOUR:
            for thing in strangers() + [[], (), a_question()]:
                self.refused(BadKind, "wanted", "Bank", deed, thing, PAPER, wish, 0)
                self.refused(BadKind, "wanted", "Bank", deed, thing, None, None, None)

    def test_then_the_paper(self):
        for deed, wish in ALL_FOUR:
            for thing in strangers() + [(), ["adds"], ("mul", "adds"), ("adds", 5)]:
                self.refused(BadPaper, "at", None, deed, a_bank(), thing, wish, 0)
                self.refused(BadPaper, "at", None, deed, a_bank(), thing, None, None)
            self.refused(BadPaper, "at", "wrong", deed, a_bank(), ("adds", "wrong", "zoo"), wish, 0)
            self.refused(BadPaper, "at", "bad", deed, a_bank(), ("adds", "bad", "wrong"), None, None)

    def test_then_the_wish(self):
        for deed in (sum_by, meets):
            for thing in strangers() + [[], (), [Wish("many")], a_question(), "many 0 9"]:
                self.refused(BadKind, "wanted", "Wish", deed, a_bank(), PAPER, thing, 0)
                self.refused(BadKind, "wanted", "Wish", deed, a_bank(), PAPER, thing, None)

    def test_or_the_wishes(self):
        for deed in (lacking, sums_of):
            for thing in strangers() + [Wish("many"), a_question()]:
                self.refused(BadKind, "wanted", "list", deed, a_bank(), PAPER, thing, 0)
                self.refused(BadKind, "wanted", "list", deed, a_bank(), PAPER, thing, -1)
            for thing in strangers() + [[], a_question()]:
                self.refused(BadWish, "at", 1, deed, a_bank(), PAPER, [Wish("many"), thing], 0)
                self.refused(BadWish, "at", 0, deed, a_bank(), PAPER, (thing, thing), None)
            self.refused(BadWish, "at", 12, deed, a_bank(), PAPER, [Wish("many")] * 13, 0)
            self.refused(BadWish, "at", 12, deed, a_bank(), PAPER, [Wish("many")] * 13 + [None], None)

    def test_then_the_day(self):
        for deed, wish in ALL_FOUR:
            for thing in [-1, 10000, 10 ** 3999] + no_whole_numbers():
                with self.assertRaises(NoPlace) as caught:
                    deed(a_bank(), PAPER, wish, thing)
                self.assertIs(caught.exception.at, thing)
            deed(a_bank(), PAPER, wish, 0)
            deed(a_bank(), PAPER, wish, 9999)
        for deed in (lacking, sums_of):
            self.refused(NoPlace, "at", -1, deed, a_bank(), PAPER, [], -1)


if __name__ == "__main__":
    unittest.main()
