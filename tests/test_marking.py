"""Point [53], paperkin/marking.py: marks by each way, and who has most of them."""

import time
import unittest

from paperkin.banks import Bank
from paperkin.copies import Copy
from paperkin.errors import BadKind, BadSheet, NoSuch
from paperkin.marking import marks_list, marks_of, most_marks, ranked
from paperkin.sheets import key_sheet, led_back, led_on
from tests import plainly
from tests.things import Alike, Case, a_question, chance, no_texts, some_names, strangers

WAYS = ("plain", "less", "whole")
NO_WAYS = no_texts() + ["", "Plain", "plain ", " less", "PLAIN", "most", "whole\n", "plain less", Alike()]


def a_bank():
    return Bank([
        a_question("a", "sums", marks=5, right=0), a_question("b", "sums", marks=4, right=1),
        a_question("c", "past", marks=1, right=2), a_question("d", "earth", marks=9, right=0),
        a_question("e", "past", marks=2, right=1),
    ])


PAPER = ("a", "b", "c", "d", "e")
KEY = (0, 1, 2, 0, 1)


def a_copy(number=0):
    return Copy(a_bank(), PAPER, number)


class Marks(Case):
    def told(self, sheet, way, total, *gains):
        """The same marks of number 0 and of what is led on."""
        for number in (0, 1, 2, 5, 7, 999):
            copy = a_copy(number)
            on = led_on(copy, sheet)
            self.assertEqual(marks_of(copy, on, way), total, (number, sheet, way))
            self.assertEqual(marks_list(copy, on, way), list(zip(PAPER, gains)), (number, sheet, way))

    def test_plain(self):
        self.told(KEY, "plain", 21, 5, 4, 1, 9, 2)
        self.told((None,) * 5, "plain", 0, 0, 0, 0, 0, 0)
        self.told((1, 0, 0, 1, 0), "plain", 0, 0, 0, 0, 0, 0)
        self.told((0, None, 2, 1, None), "plain", 6, 5, 0, 1, 0, 0)
        self.told((None, 1, None, None, 1), "plain", 6, 0, 4, 0, 0, 2)

    def test_less(self):
        self.told(KEY, "less", 21, 5, 4, 1, 9, 2)
        self.told((None,) * 5, "less", 0, 0, 0, 0, 0, 0)
        self.told((0, 1, 2, 1, 1), "less", 8, 5, 4, 1, -4, 2)
        self.told((1, 1, 2, 0, 1), "less", 14, -2, 4, 1, 9, 2)
        self.told((0, 0, 2, 0, 1), "less", 15, 5, -2, 1, 9, 2)
        self.told((0, 1, 0, 0, 0), "less", 17, 5, 4, 0, 9, -1)
        self.told((0, None, None, 2, None), "less", 1, 5, 0, 0, -4, 0)

    def test_less_is_nought_at_least(self):
        self.told((1, 0, 0, 1, 0), "less", 0, -2, -2, 0, -4, -1)
        self.told((None, 1, None, 1, None), "less", 0, 0, 4, 0, -4, 0)
        self.told((2, 1, None, 1, 2), "less", 0, -2, 4, 0, -4, -1)

    def test_whole(self):
        self.told(KEY, "whole", 21, 5, 4, 1, 9, 2)
        self.told((None,) * 5, "whole", 0, 0, 0, 0, 0, 0)
        self.told((0, 1, 2, 0, None), "whole", 18, 5, 4, 0, 9, 0)
        self.told((0, 1, 2, 0, 2), "whole", 18, 5, 4, 0, 9, 0)
        self.told((0, None, 2, None, 1), "whole", 3, 0, 0, 1, 0, 2)
        self.told((1, 1, 0, 0, 1), "whole", 9, 0, 0, 0, 9, 0)
        self.told((0, 0, 0, 1, 0), "whole", 0, 0, 0, 0, 0, 0)

    def test_plain_where_no_way_is_told(self):
        sheet = (0, 0, 2, 1, None)
        self.assertEqual(marks_of(a_copy(), sheet), 6)
        self.assertEqual(marks_list(a_copy(), sheet), [("a", 5), ("b", 0), ("c", 1), ("d", 0), ("e", 0)])
        self.assertEqual(marks_of(way="less", sheet=sheet, copy=a_copy()), 0)
        self.assertEqual(marks_list(way="less", sheet=sheet, copy=a_copy())[3], ("d", -4))

    def test_of_odd_and_even_marks(self):
        for marks in range(1, 10):
            copy = Copy(Bank([a_question("a", marks=marks), a_question("b", marks=9)]), ("a", "b"))
            self.assertEqual(marks_list(copy, (1, 0), "less"), [("a", -(marks // 2)), ("b", 9)])
            self.assertEqual(marks_of(copy, (1, 0), "less"), 9 - marks // 2)

    def test_of_one_question(self):
        copy = Copy(Bank([a_question("a", marks=7)]), ("a",), 4)
        for way in WAYS:
            self.assertEqual(marks_of(copy, key_sheet(copy), way), 7)
            self.assertEqual(marks_of(copy, (None,), way), 0)

    def test_in_the_papers_order(self):
        for number in range(12):
            self.assertEqual([name for name, gain in marks_list(a_copy(number), (None,) * 5)], list(PAPER))

    def test_most_marks(self):
        for number in (0, 1, 999):
            self.assertEqual(most_marks(a_copy(number)), 21)
            for way in WAYS:
                self.assertEqual(marks_of(a_copy(number), key_sheet(a_copy(number)), way), 21)
        self.assertEqual(most_marks(copy=Copy(a_bank(), ("c",))), 1)

    def test_the_list_is_the_askers_own(self):
        copy = a_copy()
        marks_list(copy, KEY).clear()
        self.assertEqual(len(marks_list(copy, KEY)), 5)

    def test_against_the_plainest(self):
        numbers = chance(55)
        for _ in range(200):
            names = some_names(numbers.randint(1, 9))
            bank = Bank([
                a_question(name, numbers.choice(("sums", "past", "earth")), marks=numbers.randint(1, 9),
                           right=numbers.randint(0, 2)) for name in names
            ])
            copy = Copy(bank, tuple(names), numbers.randint(0, 999))
            right = numbers.randint(0, 4)
            sheet = tuple([
                each if numbers.randint(0, right) else numbers.choice((None, 0, 1, 2)) for each in key_sheet(copy)
            ])
            back = led_back(copy, sheet)
            for way in WAYS:
                told = plainly.gains([bank.question(name) for name in names], back, way)
                self.assertEqual(marks_list(copy, sheet, way), told)
                self.assertEqual(marks_of(copy, sheet, way), max(0, sum(gain for name, gain in told)))
                self.assertEqual(marks_list(copy.first_one(), back, way), told)


class Refused(Case):
    def test_no_copy_first(self):
        for thing in strangers() + [[], (), a_question(), Bank(), Alike()]:
            for deed in (marks_of, marks_list):
                self.refused(BadKind, "Copy", deed, thing, KEY, "plain")
                self.refused(BadKind, "Copy", deed, thing, None, None)
            self.refused(BadKind, "Copy", most_marks, thing)

    def test_then_the_sheet(self):
        for deed in (marks_of, marks_list):
            for thing in strangers() + [(), [], list(KEY), KEY + (0,), KEY[1:], Alike()]:
                self.refused(BadSheet, None, deed, a_copy(), thing, "plain")
                self.refused(BadSheet, None, deed, a_copy(), thing, "no")
            self.refused(BadSheet, 1, deed, a_copy(), (0, 3, 0, 0, -1), "no")
            self.refused(BadSheet, 4, deed, a_copy(), (0, None, 0, 0, True), "less")

    def test_then_the_way(self):
        for deed in (marks_of, marks_list):
            for thing in NO_WAYS:
                self.refused(NoSuch, thing, deed, a_copy(), KEY, thing)


class Ranked(Case):
    def some(self, **sheets):
        copies = {name: a_copy(number) for number, name in enumerate(sheets)}
        return copies, {name: led_on(copies[name], sheets[name]) for name in sheets}

    def test_most_marks_first(self):
        copies, sheets = self.some(
            eva=(0, None, None, None, None), bob=KEY, ann=(0, None, None, None, None), dan=(None,) * 5, cid=KEY,
            fay=(0, 0, None, None, None),
        )
        for way, told in (
            ("plain", [("bob", 21), ("cid", 21), ("ann", 5), ("eva", 5), ("fay", 5), ("dan", 0)]),
            ("less", [("bob", 21), ("cid", 21), ("ann", 5), ("eva", 5), ("fay", 3), ("dan", 0)]),
            ("whole", [("bob", 21), ("cid", 21), ("ann", 0), ("dan", 0), ("eva", 0), ("fay", 0)]),
        ):
            self.assertEqual(ranked(copies, sheets, way), told)
        self.assertEqual(ranked(copies, sheets), ranked(copies, sheets, "plain"))
        self.assertEqual(ranked(way="less", sheets=sheets, copies=copies), ranked(copies, sheets, "less"))

    def test_of_nobody(self):
        for way in list(WAYS) + NO_WAYS:
            self.assertEqual(ranked({}, {}, way), [])

    def test_no_dict(self):
        copies, sheets = self.some(ann=KEY)
        for thing in strangers() + [[], (), a_question(), Bank(), Alike(), [("ann", KEY)]]:
            if isinstance(thing, dict):
                continue
            self.refused(BadKind, "dict", ranked, thing, sheets, "no")
            self.refused(BadKind, "dict", ranked, copies, thing, "no")
            self.refused(BadKind, "dict", ranked, thing, thing)

    def test_in_one_of_both_alone(self):
        copies, sheets = self.some(ann=KEY, bob=KEY, cid=KEY, dan=KEY)
        for left, lacking, told in (
            (("ann", "bob"), ("ann",), "bob"), (("ann",), ("ann", "bob"), "bob"), (("cid", "ann"), ("bob", "dan"), "ann"),
            ((), ("dan", "bob"), "bob"), (("dan", "cid"), (), "cid"), (("ann", "dan"), ("ann", "cid"), "cid"),
        ):
            some_copies = {name: copies[name] for name in left}
            some_sheets = {name: sheets[name] for name in lacking}
            self.refused(NoSuch, told, ranked, some_copies, some_sheets, "plain")
            self.refused(NoSuch, told, ranked, some_copies, some_sheets, None)
        self.refused(NoSuch, "bob", ranked, {"ann": None}, {"bob": 1, "ann": 2}, None)

    def test_the_first_person_that_is_refused(self):
        copies, sheets = self.some(dan=KEY, cid=KEY, bob=KEY, ann=KEY)
        self.refused(BadSheet, None, ranked, copies, {**sheets, "cid": None, "dan": (9,) * 5})
        self.refused(BadSheet, 0, ranked, copies, {**sheets, "bob": (9,) * 5, "cid": None})
        self.refused(BadSheet, 1, ranked, {**copies, "cid": None}, {**sheets, "bob": (0, 9, 9, 9, 9)})
        self.refused(BadKind, "Copy", ranked, {**copies, "bob": None}, {**sheets, "cid": (0, 9, 9, 9, 9)})
        self.refused(BadSheet, None, ranked, copies, {**sheets, "ann": list(KEY)}, "no")
        self.refused(NoSuch, "no", ranked, copies, {**sheets, "bob": list(KEY)}, "no")
        for thing in NO_WAYS:
            self.refused(NoSuch, thing, ranked, copies, sheets, thing)

    def test_what_is_handed_in_stays(self):
        copies, sheets = self.some(dan=KEY, cid=(None,) * 5)
        before = (list(copies.items()), list(sheets.items()))
        told = ranked(copies, sheets)
        told.clear()
        self.assertEqual((list(copies.items()), list(sheets.items())), before)
        self.assertEqual(ranked(copies, sheets), [("dan", 21), ("cid", 0)])


class InTime(unittest.TestCase):
    def test_forty_questions_and_two_hundred_persons(self):
        bank = Bank([a_question(name) for name in some_names(40)])
        names = some_names(200)
        copies = {name: Copy(bank, tuple(some_names(40)), number) for number, name in enumerate(names)}
        sheets = {name: key_sheet(copies[name]) for name in names}
        start = time.perf_counter()
        for way in WAYS:
            self.assertEqual(ranked(copies, sheets, way), [(name, 40) for name in names])
        self.assertLess(time.perf_counter() - start, 2)


if __name__ == "__main__":
    unittest.main()
