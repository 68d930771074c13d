"""Points [40] and [42], paperkin/rows.py: the most papers unlike in all."""

import unittest

from paperkin.banks import Bank
from paperkin.errors import BadKind, BadPaper
from paperkin.rows import are_apart, left_over, most_row, scarce_names
from paperkin.wishes import Wish
from tests import plainly
from tests.things import (
    Alike, Case, a_question, chance, plain_bank, some_bank, some_names, some_wishes, strangers, wishes_of,
)

BAD_PAPERS = (
    (), ("b", "a"), ("a", "a"), ["a"], ["a", "b"], ("A",), ("a", ""), (1,), (None,), ("a", ["b"]), (("a",),),
    ("a", True), "a", {"a"}, [], (Alike(),), tuple(some_names(41)),
)


def a_bank():
    """Six in, one out: sums a, b, c; past d, e; earth f."""
    bank = Bank([
        a_question("a", "sums", 3, 2, "k"), a_question("b", "sums", 9, 1), a_question("c", "sums", 4, 5, "k"),
        a_question("d", "past", 1, 9, "l"), a_question("e", "past", 2, 2), a_question("f", "earth", 5, 3, "l"),
        a_question("x", "past", 1, 1),
    ])
    bank.taken_out("x")
    bank.used_on("a", 10)
    bank.used_on("d", 12)
    return bank


class MostRow(Case):
    def test_none(self):
        for texts, size in ((("many 9 9",), 2), ((), 7), ((), 12), (("with x 1 1",), 2), (("many sums 3 3",), 2)):
            self.assertEqual(most_row(a_bank(), wishes_of(*texts), size), [])
        self.assertEqual(most_row(Bank(), [], 2), [])

    def test_one(self):
        for texts, size, told in (
            ((), 4, [("a", "b", "c", "d")]), ((), 6, [("a", "b", "c", "d", "e", "f")]),
            (("with f 1 1",), 2, [("a", "f")]), (("with f 1 1", "many sums 0 0"), 2, [("d", "f")]),
            (("many sums 2 2",), 2, [("a", "b")]), (("many sums 2 2",), 3, [("a", "b", "d")]),
        ):
            self.assertEqual(most_row(a_bank(), wishes_of(*texts), size), told)

    def test_several(self):
        for texts, size, told in (
            ((), 2, [("a", "b"), ("c", "d"), ("e", "f")]),
            ((), 3, [("a", "b", "c"), ("d", "e", "f")]),
            (("many sums 1 1",), 2, [("a", "d"), ("b", "e"), ("c", "f")]),
            (("many sums 1 2",), 2, [("a", "d"), ("b", "e"), ("c", "f")]),
            (("many past 1 1", "many sums 1 1"), 2, [("a", "d"), ("b", "e")]),
            (("many past 1 1",), 2, [("a", "d"), ("b", "e")]),
            (("kin 1 1",), 2, [("a", "c"), ("d", "f")]),
            (("many past 1 2", "many sums 1 2"), 3, [("a", "b", "d"), ("c", "e", "f")]),
        ):
            row = most_row(a_bank(), wishes_of(*texts), size)
            self.assertEqual(row, told)
            self.assertIsInstance(row, list)
            self.assertIsInstance(row[0], tuple)
            self.assertEqual(most_row(aside=None, day=0, size=size, wishes=tuple(wishes_of(*texts)), bank=a_bank()), told)

    def test_as_many_as_can_be_ahead_of_the_first(self):
        # ("a", "b") is the first paper, but beside it there is none.
        bank = Bank([a_question(name, toil=toil) for name, toil in zip("abcd", (4, 4, 5, 5))])
        self.assertEqual(most_row(bank, wishes_of("toil 7 9"), 2), [("a", "c"), ("b", "d")])
        self.assertEqual(most_row(bank, wishes_of("toil 7 8"), 2), [("a", "b")])
        self.assertEqual(most_row(bank, wishes_of("toil 8 10"), 2), [("a", "b"), ("c", "d")])
        bank = Bank([a_question(name, toil=toil) for name, toil in zip("abcd", (4, 5, 5, 6))])
        self.assertEqual(most_row(bank, wishes_of("toil 9 10"), 2), [("a", "d"), ("b", "c")])

    def test_the_first_name_is_left_where_it_must_be(self):
        # ("a", "c", "e") and ("a", "e", "g") fit, but beside either there is none; without "a" there are two.
        bank = Bank([a_question(name, toil=toil) for name, toil in zip("abcdefg", (3, 5, 7, 5, 9, 5, 7))])
        wishes = wishes_of("toil 19 19")
        self.assertEqual(most_row(bank, wishes, 3), [("b", "c", "g"), ("d", "e", "f")])
        self.assertEqual(most_row(bank, wishes, 3, aside=["b", "d"]), [("a", "c", "e")])

    def test_the_day(self):
        wishes = [Wish("rest", "", 5, 0)]
        self.assertEqual(most_row(a_bank(), wishes, 2), [("a", "b"), ("c", "d"), ("e", "f")])
        self.assertEqual(most_row(a_bank(), wishes, 2, 12), [("b", "c"), ("e", "f")])
        self.assertEqual(most_row(a_bank(), wishes, 2, day=15), [("a", "b"), ("c", "e")])
        self.assertEqual(most_row(a_bank(), wishes, 2, 17), [("a", "b"), ("c", "d"), ("e", "f")])

    def test_aside(self):
        for aside, told in (
            (None, [("a", "b"), ("c", "d"), ("e", "f")]), ([], [("a", "b"), ("c", "d"), ("e", "f")]),
            ((), [("a", "b"), ("c", "d"), ("e", "f")]), (["x"], [("a", "b"), ("c", "d"), ("e", "f")]),
            (["b"], [("a", "c"), ("d", "e")]), (("b",), [("a", "c"), ("d", "e")]),
            (["e", "a", "a", "x"], [("b", "c"), ("d", "f")]), (("a", "b", "c", "d"), [("e", "f")]),
            (list("abcde"), []), (tuple("fedcba"), []), (list("abcdefx"), []),
        ):
            before = list(aside or [])
            self.assertEqual(most_row(a_bank(), [], 2, 0, aside), told, aside)
            self.assertEqual(most_row(a_bank(), [], 2, aside=aside), told)
            self.assertEqual(list(aside or []), before)

    def test_the_list_is_the_askers_own(self):
        bank = a_bank()
        wishes = wishes_of("many sums 1 1")
        aside = ["f"]
        row = most_row(bank, wishes, 2, 0, aside)
        scarce = scarce_names(bank, wishes, 2, 0, aside)
        bank.dropped("a")
        wishes.clear()
        aside.clear()
        self.assertEqual(row, [("a", "d"), ("b", "e")])
        self.assertEqual(scarce, ["d", "e"])
        row.clear()
        scarce.clear()
        self.assertEqual(most_row(a_bank(), wishes_of("many sums 1 1"), 2, 0, ["f"]), [("a", "d"), ("b", "e")])


class ScarceNames(Case):
    def test_scarce(self):
        for texts, size, aside, told in (
            ((), 2, None, list("abcdef")), ((), 2, ["a"], []), ((), 4, None, []), ((), 6, (), list("abcdef")),
            ((), 6, ["a"], []), (("many sums 1 1", "many past 1 1"), 2, None, ["d", "e"]),
            (("with f 1 1",), 2, None, ["f"]), (("kin 1 1",), 2, None, ["a", "c", "d", "f"]),
            (("kin 1 1",), 2, ["a"], ["d", "f"]), (("many 9 9",), 2, None, []), (("many past 2 2",), 2, None, ["d", "e"]),
            ((), 3, ["x"], list("abcdef")), ((), 5, None, []), ((), 5, ["a"], list("bcdef")),
        ):
            scarce = scarce_names(a_bank(), wishes_of(*texts), size, 0, aside)
            self.assertEqual(scarce, told, (texts, size, aside))
            self.assertIsInstance(scarce, list)
            self.assertEqual(scarce_names(aside=aside, day=0, size=size, wishes=wishes_of(*texts), bank=a_bank()), told)
        self.assertEqual(scarce_names(Bank(), [], 2), [])

    def test_the_day(self):
        wishes = [Wish("rest", "", 5, 0)]
        self.assertEqual(scarce_names(a_bank(), wishes, 2, 12), list("bcef"))
        self.assertEqual(scarce_names(a_bank(), wishes, 2, 15), [])
        self.assertEqual(scarce_names(a_bank(), wishes, 2), list("abcdef"))


class AgainstThePlainest(Case):
    def test_many_banks(self):
        numbers = chance(40)
        for _ in range(150):
            bank = some_bank(numbers, 8)
            wishes = some_wishes(numbers, 3)
            size = numbers.randint(2, 4)
            day = numbers.randint(0, 25)
            aside = numbers.choice((None, [], [name for name in bank.names() if numbers.randint(0, 4) == 0]))
            before = (bank.twin(), list(wishes), aside and list(aside))
            row = plainly.most_row(bank, wishes, size, day, aside)
            self.assertEqual(most_row(bank, wishes, size, day, aside), row)
            scarce = [
                name for name in bank.names()
                if len(plainly.most_row(bank, wishes, size, day, (aside or []) + [name])) < len(row)
            ]
            self.assertEqual(scarce_names(bank, wishes, size, day, aside), scarce)
            self.assertEqual((bank, wishes, aside), before)


class AreApart(Case):
    def test_apart(self):
        for papers in (
            [], (), [("a",)], [("a",), ("b",)], (("a", "c"), ("b", "d"), ("e",)), [("c", "d"), ("a", "b")],
            [("a", "zoo"), ("b", "zoos")], [tuple(some_names(40)), ("zz",)],
        ):
            self.assertIs(are_apart(papers), True)
        self.assertIs(are_apart(papers=[("a",)]), True)

    def test_not_apart(self):
        for papers in (
            [("a",), ("a",)], (("a", "b"), ("b", "c")), [("a", "b"), ("c", "d"), ("b", "e")],
            [("a",), ("b",), ("c",), ("a", "z")], [tuple(some_names(40)), ("aa",)],
        ):
            before = list(papers)
            self.assertIs(are_apart(papers), False)
            self.assertEqual(list(papers), before)

    def test_refused(self):
        for thing in strangers() + [a_bank(), a_question(), Alike(), "a", {("a",): 1}, range(0)]:
            self.refused(BadPaper, None, are_apart, thing)
            self.refused(BadPaper, None, left_over, a_bank(), thing)
        for thing in list(BAD_PAPERS) + strangers():
            for papers, number in (
                ([thing], 0), ((thing,), 0), ([("a",), ("a",), thing, thing], 2), ((("a",), thing, ("a",), None), 1),
            ):
                self.refused(BadPaper, number, are_apart, papers)
                self.refused(BadPaper, number, left_over, a_bank(), papers)


class LeftOver(Case):
    def test_left(self):
        for papers, told in (
            ([], list("abcdef")), ((), list("abcdef")), ([("a", "b")], list("cdef")), ((("a", "f"), ("b",)), list("cde")),
            ([("a", "b"), ("b", "c")], list("def")), ([("x",)], list("abcdef")), ([("zoo",)], list("abcdef")),
            ([("a", "zoo"), ("a", "x")], list("bcdef")), ([("a", "b", "c"), ("d", "e", "f")], []),
        ):
            before = list(papers)
            left = left_over(a_bank(), papers)
            self.assertEqual(left, told)
            self.assertIsInstance(left, list)
            self.assertEqual(left_over(papers=papers, bank=a_bank()), told)
            self.assertEqual(list(papers), before)

    def test_of_banks_of_any_length(self):
        names = some_names(60)
        self.assertEqual(left_over(plain_bank(names), [tuple(names[:40]), tuple(names[41:])]), [names[40]])

    def test_no_bank_first(self):
        for thing in strangers() + [[], (), a_question(), Alike()]:
            self.refused(BadKind, "Bank", left_over, thing, [])
            self.refused(BadKind, "Bank", left_over, thing, None)
            self.refused(BadKind, "Bank", left_over, thing, [None])

    def test_the_list_is_the_askers_own(self):
        bank = a_bank()
        left = left_over(bank, [("a",)])
        bank.dropped("b")
        self.assertEqual(left, list("bcdef"))
        left.clear()
        self.assertEqual(left_over(bank, [("a",)]), list("cdef"))


class AtTheBounds(Case):
    def test_twelve_in(self):
        names = some_names(12)
        bank = plain_bank(names + ["out"])
        bank.taken_out("out")
        for size in range(2, 13):
            row = [tuple(names[at:at + size]) for at in range(0, 12 - size + 1, size)]
            self.assertEqual(most_row(bank, [], size), row)
            self.assertEqual(scarce_names(bank, [], size), names if 12 % size == 0 else [])

    def test_twelve_in_that_leave_no_room_for_all(self):
        names = some_names(12)
        bank = Bank([a_question(name, "sums" if at % 2 == 0 else "past") for at, name in enumerate(names)])
        for size in range(2, 7):
            for least in range(1, size + 1):
                wishes = [Wish("many", "sums", least, 12), Wish("many", "", 0, 12)]
                row = most_row(bank, wishes, size)
                self.assertEqual(len(row), min(12 // size, 6 // least), (size, least))
                self.assertIs(are_apart(row), True)
        self.assertEqual(scarce_names(bank, wishes_of("many sums 2 2"), 3), [names[at] for at in range(0, 12, 2)])


if __name__ == "__main__":
    unittest.main()
