"""Points [60] to [63], paperkin/sittings.py: sittings, their deeds, and questions found wrong."""

import time
import unittest

from paperkin.banks import Bank
from paperkin.copies import Copy
from paperkin.errors import BadKind, BadPaper, BadSheet, BadText, BadWish, Gone, NoPlace, NoSuch, Twice
from paperkin.marking import marks_of
from paperkin.sheets import key_sheet, led_back, led_on
from paperkin.sittings import Sitting, need_sitting
from tests import plainly
from tests.things import Alike, Case, Stranger, a_question, chance, no_texts, no_whole_numbers, some_names, strangers

PAPER = ("a", "b", "c", "d")
KEY = (0, 1, 2, 0)
WAYS = ("plain", "less", "whole")
NO_VERDICTS = strangers() + [
    (), [], ["out"], ["all"], ["right", 0], ("out", 0), ("out", "out"), ("all", 0), ("right",), ("right", 0, 0),
    ("right", 3), ("right", -1), ("right", True), ("right", False), ("right", "0"), ("right", None), ("right", (0,)),
    ("right", [0]), ("right", 10 ** 3999), ("Out",), ("out ",), ("none",), ("none", 0), ("", 0), ("wrong", 1), ("all", "all"), ("",), (None,), (0,), ("wrong",), (("out",),),
    "out", "all", {"out"}, {"right": 0}, (["out"],), (b"out",), Alike(), (Alike(),), ("right", Alike()), (Alike(), 0),
]


def a_bank():
    return Bank([
        a_question("a", "sums", marks=5, right=0), a_question("b", "sums", marks=4, right=1),
        a_question("c", "past", marks=1, right=2), a_question("d", "earth", marks=9, right=0), a_question("e"),
    ])


def a_sitting(day=7, way="plain"):
    return Sitting(a_bank(), PAPER, day, way)


def gives(sitting, person, sheet, deed="given"):
    """Let a person give a sheet that is told in the paper's order."""
    return getattr(sitting, deed)(person, led_on(sitting.copy_of(person), sheet))


def with_sheets(way="plain", **sheets):
    """A sitting with sheets, told in the paper's order."""
    sitting = a_sitting(way=way)
    for person, sheet in sheets.items():
        sitting.handed(person)
        if sheet is not None:
            gives(sitting, person, sheet)
    return sitting


def seen(sitting):
    """All that a sitting tells."""
    persons = sitting.persons()
    return (
        persons, [sitting.copy_of(person).number for person in persons], [sitting.sheet_by(person) for person in persons],
        [sitting.marks_by(person) for person in persons], sitting.results(), list(sitting.verdicts().items()),
        len(sitting), str(sitting), repr(sitting),
    )


class Making(Case):
    def test_the_day_is_noted_for_all_questions_of_the_paper_and_nothing_else_is_done(self):
        bank = a_bank()
        bank.used_on("a", 3)
        bank.used_on("b", 7)
        bank.taken_out("e")
        told = bank.twin()
        for name in ("a", "c"):
            told.used_on(name, 7)
        Sitting(bank, ("a", "c"), 7)
        self.assertEqual(bank, told)
        self.assertEqual(bank.days_of("a"), [3, 7])
        Sitting(bank, ("a", "b"), 7, "less")
        told.used_on("a", 7)
        self.assertEqual(bank, told)

    def test_day_and_way_where_left_out(self):
        bank = a_bank()
        sitting = Sitting(bank, PAPER)
        self.assertEqual(bank.days_of("d"), [0])
        self.assertEqual(repr(sitting), "Sitting(0)")
        self.assertEqual(sitting, Sitting(a_bank(), PAPER, 0, "plain"))
        self.assertEqual(sitting, Sitting(way="plain", day=0, paper=PAPER, bank=a_bank()))

    def test_what_is_refused_notes_nothing(self):
        bank = a_bank()
        bank.taken_out("e")
        before = bank.twin()
        for thing in strangers() + [[], (), a_question(), Alike()]:
            self.refused(BadKind, "Bank", Sitting, thing, PAPER, 7, "plain")
            self.refused(BadKind, "Bank", Sitting, thing, None, None, None)
        for thing in strangers() + [[], (), list(PAPER), ("b", "a"), Alike()]:
            self.refused(BadPaper, None, Sitting, bank, thing, 7, "plain")
            self.refused(BadPaper, None, Sitting, bank, thing, -1, None)
        self.refused(BadPaper, "e", Sitting, bank, ("a", "e", "x"), -1, "no")
        self.refused(BadPaper, "f", Sitting, bank, ("a", "f"), 7, "plain")
        for thing in no_whole_numbers() + [-1, 10000, Alike()]:
            self.refused(NoPlace, thing, Sitting, bank, PAPER, thing, "plain")
            self.refused(NoPlace, thing, Sitting, bank, PAPER, thing, None)
        for thing in no_texts() + ["", "Plain", "plain ", "most", Alike()]:
            self.refused(NoSuch, thing, Sitting, bank, PAPER, 7, thing)
        self.assertEqual(bank, before)

    def test_what_is_done_to_the_bank_later_changes_no_sitting(self):
        bank = a_bank()
        sitting = Sitting(bank, PAPER, 7)
        sitting.handed("ann")
        gives(sitting, "ann", KEY)
        before = seen(sitting)
        bank.put(a_question("a", "past", 9, 9, "k", 1, ("x", "y")))
        bank.taken_out("b")
        bank.dropped("c")
        bank.unused_on("d", 7)
        self.assertEqual(seen(sitting), before)
        self.assertEqual(sitting.handed("bob"), Copy(a_bank(), PAPER, 1))
        self.assertEqual(gives(sitting, "bob", KEY), 19)
        self.assertEqual(sitting.found_wrong("c", ("right", 0)), [("ann", 19, 18), ("bob", 19, 18)])

    def test_deeds_leave_the_bank(self):
        bank = a_bank()
        sitting = Sitting(bank, PAPER, 7)
        before = bank.twin()
        sitting.handed("ann")
        gives(sitting, "ann", KEY)
        sitting.found_wrong("a", ("out",))
        sitting.twin().undone()
        for _ in range(3):
            sitting.undone()
        self.assertEqual(bank, before)


class Handed(Case):
    def test_numbers_from_nought_on(self):
        sitting = a_sitting()
        for number, person in enumerate(("cid", "ann", "bob")):
            copy = sitting.handed(person)
            self.assertEqual(copy.number, number)
            self.assertEqual(copy, Copy(a_bank(), PAPER, number))
            self.assertEqual(sitting.copy_of(person), copy)
        self.assertEqual(sitting.persons(), ["ann", "bob", "cid"])
        self.assertEqual(sitting.handed(person="eve").number, 3)

    def test_behind_a_hundred_from_nought_anew(self):
        sitting = a_sitting()
        told = [sitting.handed(person).number for person in some_names(203)]
        self.assertEqual(told, list(range(100)) * 2 + [0, 1, 2])

    def test_refused(self):
        sitting = with_sheets(ann=KEY, bob=None)
        before = seen(sitting)
        for thing in no_texts() + ["", "Ann", "ann bob", " ann", "ann\n", "abcdefghi", "a1", Alike(), Stranger()]:
            with self.assertRaises(BadText):
                sitting.handed(thing)
        self.refused(Twice, "ann", sitting.handed, "ann")
        self.refused(Twice, "bob", sitting.handed, "bob")
        self.assertEqual(seen(sitting), before)
        self.assertEqual(sitting.undone(), ("handed", "bob"))


class GivenAndMended(Case):
    def test_marks_by_each_way(self):
        for way, answers, told in (
            ("plain", (0, 1, 2, 1), 10), ("less", (0, None, 2, 1), 2), ("whole", (0, None, 2, 1), 1),
        ):
            for number in (0, 1, 2, 5):
                sitting = a_sitting(way=way)
                for person in some_names(number):
                    sitting.handed(person)
                copy = sitting.handed("ann")
                sheet = led_on(copy, answers)
                self.assertEqual(sitting.given("ann", sheet), told)
                self.assertEqual(sitting.marks_by("ann"), marks_of(copy, sheet, way))
                self.assertEqual(sitting.sheet_by("ann"), sheet)

    def test_once(self):
        sitting = with_sheets(ann=KEY)
        self.refused(Twice, "ann", sitting.given, "ann", KEY)
        self.refused(Twice, "ann", sitting.given, "ann", None)
        self.assertEqual(sitting.undone(), ("given", "ann"))
        self.assertIsNone(sitting.sheet_by("ann"))
        self.assertIsNone(sitting.marks_by("ann"))
        self.assertEqual(gives(sitting, "ann", (None,) * 4), 0)

    def test_mended(self):
        sitting = with_sheets(ann=KEY, bob=(None,) * 4)
        self.assertEqual(gives(sitting, "ann", (0, 1, 2, None), "mended"), (19, 10))
        self.assertEqual(gives(sitting, "ann", (0, 1, 2, None), "mended"), (10, 10))
        self.assertEqual(gives(sitting, "bob", KEY, "mended"), (0, 19))
        self.assertEqual(led_back(sitting.copy_of("ann"), sitting.sheet_by("ann")), (0, 1, 2, None))
        self.assertEqual(sitting.results(), [("bob", 19), ("ann", 10)])
        self.assertEqual(len(sitting), 2)
        self.assertIs(type(gives(sitting, "bob", KEY, "mended")), tuple)

    def test_by_the_verdicts_that_hold(self):
        sitting = with_sheets(ann=KEY)
        sitting.found_wrong("d", ("out",))
        sitting.found_wrong("a", ("all",))
        sitting.handed("bob")
        self.assertEqual(gives(sitting, "bob", (None,) * 4), 5)
        self.assertEqual(gives(sitting, "ann", (1, 0, 2, 0), "mended"), (10, 6))

    def test_who_has_no_copy(self):
        sitting = with_sheets(ann=KEY, bob=None)
        before = seen(sitting)
        for thing in no_texts() + ["", "cid", "Ann", "ann ", Alike(), Stranger()]:
            for sheet in (KEY, None):
                self.refused(NoSuch, thing, sitting.given, thing, sheet)
                self.refused(NoSuch, thing, sitting.mended, thing, sheet)
            for deed in (sitting.copy_of, sitting.sheet_by, sitting.marks_by):
                self.refused(NoSuch, thing, deed, thing)
        self.refused(NoSuch, "bob", sitting.mended, "bob", KEY)
        self.refused(NoSuch, "bob", sitting.mended, "bob", None)
        self.assertEqual(seen(sitting), before)

    def test_no_sheets(self):
        sitting = with_sheets(ann=KEY, bob=None)
        before = seen(sitting)
        for thing in strangers() + [(), [], list(KEY), KEY[1:], KEY + (0,), Alike()]:
            self.refused(BadSheet, None, sitting.given, "bob", thing)
            self.refused(BadSheet, None, sitting.mended, "ann", thing)
        for thing in no_whole_numbers() + [-1, 3, Alike()]:
            if thing is not None:
                self.refused(BadSheet, 1, sitting.given, "bob", (0, thing, thing, 0))
                self.refused(BadSheet, 3, sitting.mended, "ann", (0, None, 0, thing))
        self.assertEqual(seen(sitting), before)
        self.assertEqual(sitting.undone(), ("handed", "bob"))
        self.assertEqual(sitting.undone(), ("given", "ann"))

    def test_places_are_those_of_the_persons_own_copy(self):
        bank = Bank([a_question("a", answers=("x", "y")), a_question("b", answers=("u", "v", "w"))])
        sitting = Sitting(bank, ("a", "b"))
        sitting.handed("ann")
        sitting.handed("bob")
        self.refused(BadSheet, 0, sitting.given, "ann", (2, 2))
        self.refused(BadSheet, 1, sitting.given, "bob", (2, 2))
        self.assertEqual(sitting.given("ann", (1, 2)), 0)
        self.assertEqual(sitting.given("bob", (2, 0)), 2)


class Verdicts(Case):
    SHEETS = {"ann": KEY, "bob": (0, 0, 0, 0), "cid": (None,) * 4, "dan": (1, 1, 2, 2)}

    def moved(self, way, name, verdict, told):
        sitting = with_sheets(way, **self.SHEETS)
        before = seen(sitting)
        self.assertEqual(sitting.if_wrong(name, verdict), told)
        self.assertEqual(seen(sitting), before)
        self.assertEqual(sitting.found_wrong(name, verdict), told)
        self.assertEqual(sitting.verdicts(), {name: verdict})
        now = {person: marks for person, elder, marks in told}
        for place, person in enumerate(before[0]):
            self.assertEqual(sitting.marks_by(person), now.get(person, before[3][place]))
        self.assertEqual(sitting.found_wrong(name, verdict), [])

    def test_out(self):
        self.moved("plain", "d", ("out",), [("ann", 19, 10), ("bob", 14, 5)])
        self.moved("less", "a", ("out",), [("ann", 19, 14), ("bob", 12, 7), ("dan", 0, 1)])
        self.moved("whole", "b", ("out",), [("ann", 19, 15), ("bob", 9, 14)])

    def test_all(self):
        self.moved("plain", "d", ("all",), [("cid", 0, 9), ("dan", 5, 14)])
        self.moved("less", "b", ("all",), [("bob", 12, 18), ("cid", 0, 4)])
        self.moved("whole", "a", ("all",), [("dan", 1, 10)])
        self.moved("whole", "c", ("all",), [("bob", 9, 10), ("cid", 0, 1)])

    def test_right(self):
        self.moved("plain", "d", ("right", 2), [("ann", 19, 10), ("bob", 14, 5), ("dan", 5, 14)])
        self.moved("plain", "c", ("right", 1), [("ann", 19, 18), ("dan", 5, 4)])
        self.moved("less", "c", ("right", 0), [("ann", 19, 18), ("bob", 12, 13)])
        self.moved("plain", "a", ("right", 0), [])
        self.moved("whole", "a", ("right", 1), [("ann", 19, 10), ("dan", 1, 10)])

    def test_the_last_one_holds_alone(self):
        sitting = with_sheets(**self.SHEETS)
        self.assertEqual(sitting.found_wrong("a", ("out",)), [("ann", 19, 14), ("bob", 14, 9)])
        self.assertEqual(sitting.found_wrong("a", ("all",)), [("ann", 14, 19), ("bob", 9, 14), ("cid", 0, 5), ("dan", 5, 10)])
        self.assertEqual(sitting.found_wrong("a", ("right", 1)), [("ann", 19, 14), ("bob", 14, 9), ("cid", 5, 0)])
        self.assertEqual(sitting.verdicts(), {"a": ("right", 1)})
        self.assertEqual(sitting.found_wrong("a", ("right", 0)), [("ann", 14, 19), ("bob", 9, 14), ("dan", 10, 5)])
        self.assertEqual(sitting.results(), with_sheets(**self.SHEETS).results())
        self.assertNotEqual(sitting, with_sheets(**self.SHEETS))

    def test_the_number_is_that_of_the_order_when_the_sitting_was_made(self):
        sitting = with_sheets(**self.SHEETS)
        for person, number in (("ann", 0), ("bob", 1), ("cid", 2), ("dan", 3)):
            self.assertEqual(sitting.copy_of(person).number, number)
        sitting.found_wrong("d", ("right", 2))
        self.assertEqual([sitting.marks_by(person) for person in ("ann", "bob", "cid", "dan")], [10, 5, 0, 14])
        bank = a_bank()
        bank.put(bank.question("d").turned(1))
        other = Sitting(bank, PAPER)
        other.handed("ann")
        gives(other, "ann", (0, 1, 2, 1))
        self.assertEqual(other.found_wrong("d", ("right", 1)), [("ann", 10, 19)])

    def test_all_questions_out(self):
        for way in WAYS:
            sitting = with_sheets(way, **self.SHEETS)
            for name in PAPER:
                sitting.found_wrong(name, ("out",))
            self.assertEqual(sitting.results(), [("ann", 0), ("bob", 0), ("cid", 0), ("dan", 0)])
            self.assertEqual(sitting.verdicts(), {name: ("out",) for name in PAPER})
            for name in PAPER:
                sitting.found_wrong(name, ("all",))
            self.assertEqual(sitting.results(), [("ann", 19), ("bob", 19), ("cid", 19), ("dan", 19)])

    def test_by_rising_names(self):
        sitting = a_sitting()
        for name in ("c", "a", "d", "b"):
            sitting.found_wrong(name, ("out",))
        self.assertEqual(list(sitting.verdicts()), ["a", "b", "c", "d"])

    def test_who_gave_none_is_not_moved(self):
        sitting = with_sheets(ann=None, bob=KEY)
        self.assertEqual(sitting.found_wrong("a", ("out",)), [("bob", 19, 14)])
        self.assertEqual(a_sitting().found_wrong(verdict=("all",), name="a"), [])

    def test_refused(self):
        sitting = with_sheets(**self.SHEETS)
        before = seen(sitting)
        for deed in (sitting.found_wrong, sitting.if_wrong):
            for thing in no_texts() + ["", "e", "f", "A", "a ", Alike(), Stranger()]:
                self.refused(NoSuch, thing, deed, thing, ("out",))
                self.refused(NoSuch, thing, deed, thing, None)
            for thing in NO_VERDICTS:
                self.refused(BadWish, "verdict", deed, "a", thing)
        self.assertEqual(seen(sitting), before)
        self.assertEqual(sitting.undone(), ("given", "dan"))

    def test_numbers_that_no_answer_has(self):
        for many in range(2, 7):
            sitting = Sitting(Bank([a_question("a", answers=("p", "q", "r", "s", "t", "u")[:many])]), ("a",))
            for number in range(many):
                self.assertEqual(sitting.if_wrong("a", ("right", number)), [])
            self.refused(BadWish, "verdict", sitting.if_wrong, "a", ("right", many))

    def test_the_lists_and_dicts_are_the_askers_own(self):
        sitting = with_sheets(**self.SHEETS)
        sitting.if_wrong("a", ("out",)).clear()
        told = sitting.found_wrong("a", ("out",))
        verdicts = sitting.verdicts()
        persons = sitting.persons()
        results = sitting.results()
        sitting.undone()
        self.assertEqual(told, [("ann", 19, 14), ("bob", 14, 9)])
        self.assertEqual(verdicts, {"a": ("out",)})
        before = seen(sitting)
        told.clear()
        verdicts["b"] = ("all",)
        persons.clear()
        results.append(("zoe", 99))
        self.assertEqual(seen(sitting), before)


class Undone(Case):
    def test_each_kind_one_by_one(self):
        sitting = a_sitting()
        states = [seen(sitting)]
        deeds = [
            (lambda: sitting.handed("bob"), ("handed", "bob")), (lambda: gives(sitting, "bob", KEY), ("given", "bob")),
            (lambda: gives(sitting, "bob", (None,) * 4, "mended"), ("mended", "bob")),
            (lambda: sitting.found_wrong("a", ("all",)), ("wrong", "a")),
            (lambda: sitting.found_wrong("a", ("out",)), ("wrong", "a")),
            (lambda: sitting.handed("ann"), ("handed", "ann")), (lambda: gives(sitting, "ann", KEY), ("given", "ann")),
            (lambda: gives(sitting, "ann", KEY, "mended"), ("mended", "ann")),
            (lambda: sitting.found_wrong("a", ("out",)), ("wrong", "a")),
            (lambda: gives(sitting, "bob", KEY, "mended"), ("mended", "bob")),
            (lambda: sitting.found_wrong("b", ("right", 2)), ("wrong", "b")),
        ]
        for deed, told in deeds:
            deed()
            states.append(seen(sitting))
        for deed, told in reversed(deeds):
            self.assertEqual(seen(sitting), states.pop())
            self.assertEqual(sitting.undone(), told)
        self.assertEqual(seen(sitting), states.pop())
        self.assertEqual(sitting, a_sitting())
        for _ in range(2):
            with self.assertRaises(Gone):
                sitting.undone()

    def test_what_is_refused_is_no_deed(self):
        sitting = with_sheets(ann=KEY)
        for deed in (
            lambda: sitting.handed("ann"), lambda: sitting.handed("A"), lambda: sitting.given("ann", KEY),
            lambda: sitting.given("bob", KEY), lambda: sitting.mended("ann", ()), lambda: sitting.mended("bob", KEY),
            lambda: sitting.found_wrong("x", ("out",)), lambda: sitting.found_wrong("a", "out"),
        ):
            with self.assertRaises((Twice, BadText, NoSuch, BadSheet, BadWish)):
                deed()
        sitting.if_wrong("a", ("out",))
        self.assertEqual(sitting.undone(), ("given", "ann"))
        self.assertEqual(sitting.undone(), ("handed", "ann"))
        with self.assertRaises(Gone):
            sitting.undone()

    def test_the_number_of_a_copy_handed_back(self):
        sitting = a_sitting()
        self.assertEqual([sitting.handed(person).number for person in ("ann", "bob")], [0, 1])
        self.assertEqual(sitting.undone(), ("handed", "bob"))
        self.refused(NoSuch, "bob", sitting.copy_of, "bob")
        self.assertEqual(sitting.handed("cid").number, 1)
        self.assertEqual(sitting.handed("bob").number, 2)

    def test_undone_is_no_deed_itself(self):
        sitting = with_sheets(ann=KEY, bob=KEY)
        told = [sitting.undone() for _ in range(4)]
        self.assertEqual(told, [("given", "bob"), ("handed", "bob"), ("given", "ann"), ("handed", "ann")])
        self.assertIs(type(told[0]), tuple)

    def test_the_banks_days_stay(self):
        bank = a_bank()
        sitting = Sitting(bank, PAPER, 7)
        sitting.handed("ann")
        sitting.undone()
        self.assertEqual(bank.days_of("a"), [7])


class Results(Case):
    def test_order_and_least(self):
        sitting = with_sheets(eva=KEY, bob=(0, None, None, None), ann=(0, None, None, None), dan=KEY, cid=None, fay=(1,) * 4)
        told = [("dan", 19), ("eva", 19), ("ann", 5), ("bob", 5), ("fay", 4)]
        self.assertEqual(sitting.results(), told)
        self.assertEqual(sitting.results(0), told)
        self.assertEqual(sitting.results(4), told)
        self.assertEqual(sitting.results(5), told[:4])
        self.assertEqual(sitting.results(6), told[:2])
        self.assertEqual(sitting.results(least=19), told[:2])
        self.assertEqual(sitting.results(20), [])
        self.assertEqual(sitting.results(9999), [])
        self.assertEqual(str(sitting), "dan 19, eva 19, ann 5, bob 5, fay 4")
        self.assertEqual(len(sitting), 5)

    def test_of_least_nought_those_with_none(self):
        sitting = with_sheets(ann=(None,) * 4)
        self.assertEqual(sitting.results(), [("ann", 0)])
        self.assertEqual(sitting.results(1), [])
        self.assertEqual(str(sitting), "ann 0")

    def test_refused(self):
        sitting = with_sheets(ann=KEY)
        for thing in no_whole_numbers() + [-1, 10000, Alike()]:
            self.refused(NoPlace, thing, sitting.results, thing)

    def test_of_nobody(self):
        sitting = a_sitting()
        self.assertEqual((sitting.results(), sitting.persons(), sitting.verdicts()), ([], [], {}))
        self.assertEqual((str(sitting), repr(sitting), len(sitting), bool(sitting)), ("", "Sitting(7)", 0, False))
        sitting.handed("ann")
        self.assertEqual((str(sitting), len(sitting), bool(sitting)), ("", 0, False))
        gives(sitting, "ann", KEY)
        self.assertEqual((str(sitting), len(sitting), bool(sitting)), ("ann 19", 1, True))


class Equal(Case):
    def test_led_otherwise_to_the_same(self):
        one = with_sheets(ann=KEY, bob=(0, None, None, None))
        one.found_wrong("a", ("out",))
        other = a_sitting()
        other.found_wrong("a", ("all",))
        other.handed("ann")
        other.handed("bob")
        gives(other, "bob", KEY)
        gives(other, "ann", (None,) * 4)
        gives(other, "bob", (0, None, None, None), "mended")
        self.assertFalse(one == other)
        other.found_wrong("a", ("out",))
        gives(other, "ann", KEY, "mended")
        other.found_wrong("c", ("out",))
        other.undone()
        self.assertTrue(one == other)
        self.assertFalse(one != other)

    def test_one_thing_otherwise(self):
        def told(day=7, way="plain", paper=PAPER, bank=None, persons=("ann", "bob"), sheet=KEY, verdict=("out",)):
            sitting = Sitting(bank or a_bank(), paper, day, way)
            for person in persons:
                sitting.handed(person)
            if sheet is not None and "ann" in persons:
                gives(sitting, "ann", sheet[:len(paper)])
            if verdict is not None:
                sitting.found_wrong("a", verdict)
            return sitting
        other_bank = a_bank()
        other_bank.put(other_bank.question("d").changed(toil=9))
        self.assertEqual(told(), told())
        for other in (
            told(day=8), told(way="less"), told(paper=("a", "b", "c")), told(bank=other_bank), told(persons=("bob", "ann")),
            told(persons=("ann",)), told(persons=("ann", "bob", "cid")), told(persons=("ann", "cid")), told(sheet=None),
            told(sheet=(0, 1, 2, None)), told(verdict=None), told(verdict=("all",)), told(verdict=("right", 0)),
        ):
            self.assertTrue(told() != other)
            self.assertFalse(told() == other)
            self.assertFalse(other == told())

    def test_copies_that_are_equal_by_other_numbers(self):
        bank = Bank([a_question("a", answers=("x", "y"))])
        one, other = Sitting(bank, ("a",)), Sitting(bank, ("a",))
        for person in ("ann", "bob", "cid"):
            one.handed(person)
        for person in ("cid", "bob", "ann"):
            other.handed(person)
        self.assertEqual([one.copy_of("ann").number, other.copy_of("ann").number], [0, 2])
        self.assertEqual(one, other)

    def test_other_questions_that_nobody_has_copies_of(self):
        for other in (
            a_question("d", "earth", marks=9, right=0, kin="k"), a_question("d", "earth", marks=8, right=0),
            a_question("d", "earth", marks=9, right=1),
        ):
            bank = a_bank()
            bank.put(other)
            self.assertNotEqual(Sitting(bank, PAPER, 7), a_sitting())
        self.assertNotEqual(Sitting(a_bank(), PAPER[:3], 7), a_sitting())

    def test_whatever_the_bank_has_besides(self):
        bank = a_bank()
        bank.used_on("a", 4)
        bank.dropped("e")
        self.assertEqual(Sitting(bank, PAPER, 7), a_sitting())

    def test_to_what_is_no_sitting(self):
        sitting = a_sitting()
        for thing in strangers() + [[], (), a_question(), a_bank(), Copy(a_bank(), PAPER), 7]:
            self.assertIs(sitting == thing, False)
            self.assertIs(sitting != thing, True)

    def test_need_sitting(self):
        self.assertIsNone(need_sitting(a_sitting()))
        self.assertIsNone(need_sitting(thing=with_sheets(ann=KEY)))
        for thing in strangers() + [[], (), a_question(), a_bank(), Alike(), Sitting, [a_sitting()]]:
            self.refused(BadKind, "Sitting", need_sitting, thing)


class Twin(Case):
    def test_equal_with_the_same_deeds_to_be_undone(self):
        sitting = with_sheets("less", ann=KEY, bob=(1, 1, 1, 1))
        gives(sitting, "bob", KEY, "mended")
        sitting.found_wrong("a", ("all",))
        sitting.found_wrong("a", ("right", 1))
        other = sitting.twin()
        self.assertEqual(sitting, other)
        self.assertEqual(seen(sitting), seen(other))
        for _ in range(7):
            self.assertEqual(sitting.undone(), other.undone())
            self.assertEqual(seen(sitting), seen(other))
        with self.assertRaises(Gone):
            other.undone()

    def test_goes_on_by_itself(self):
        sitting = with_sheets(ann=KEY)
        before = seen(sitting)
        other = sitting.twin()
        other.handed("bob")
        gives(other, "bob", KEY)
        gives(other, "ann", (None,) * 4, "mended")
        other.found_wrong("a", ("out",))
        self.assertEqual(seen(sitting), before)
        self.assertEqual(sitting.undone(), ("given", "ann"))
        self.assertEqual(other.undone(), ("wrong", "a"))
        self.assertEqual(other.results(), [("bob", 19), ("ann", 0)])
        sitting.handed("cid")
        self.assertEqual(other.persons(), ["ann", "bob"])

    def test_notes_no_day(self):
        bank = a_bank()
        sitting = Sitting(bank, PAPER, 7)
        bank.unused_on("a", 7)
        sitting.twin()
        self.assertEqual(bank.days_of("a"), [])


class HandedIn(Case):
    def test_sheets_and_papers_are_not_kept_nor_changed(self):
        bank = a_bank()
        paper = tuple(PAPER)
        sitting = Sitting(bank, paper, 7)
        sheet = key_sheet(sitting.handed("ann"))
        sitting.given("ann", sheet)
        verdict = ("right", 1)
        sitting.found_wrong("a", verdict)
        self.assertEqual((paper, sheet, verdict), (PAPER, KEY, ("right", 1)))


class AgainstThePlainest(Case):
    """Deeds by chance: all is told as if made anew of the deeds that stand."""

    def told_plainly(self, questions, way, deeds):
        names = [each.name for each in questions]
        bank = Bank(questions)
        copies, sheets, verdicts = {}, {}, {}
        for word, name, thing in deeds:
            if word == "handed":
                copies[name] = Copy(bank, tuple(names), len(copies) % 100)
            elif word == "wrong":
                verdicts[name] = thing
            else:
                sheets[name] = thing
        marks = {
            name: plainly.judged_marks(questions, led_back(copies[name], sheet), way, verdicts)
            for name, sheet in sheets.items()
        }
        return copies, sheets, verdicts, marks

    def some_deed(self, numbers, sitting, questions):
        word = numbers.choice(("handed", "given", "given", "mended", "wrong"))
        person = numbers.choice(some_names(8))
        if word == "handed":
            sitting.handed(person)
            return word, person, None
        if word == "wrong":
            question = numbers.choice(questions)
            verdict = numbers.choice((("out",), ("all",), ("right", numbers.randint(0, 2))))
            sitting.found_wrong(question.name, verdict)
            return word, question.name, verdict
        sheet = tuple([numbers.choice((None, 0, 1, 2)) for _ in questions])
        getattr(sitting, word)(person, sheet)
        return word, person, sheet

    def test_many_deeds(self):
        numbers = chance(60)
        for way in WAYS * 3:
            questions = [
                a_question(name, numbers.choice(("sums", "past")), marks=numbers.randint(1, 9), right=numbers.randint(0, 2))
                for name in some_names(numbers.randint(1, 5))
            ]
            sitting = Sitting(Bank(questions), tuple(each.name for each in questions), 3, way)
            deeds = []
            for _ in range(120):
                if deeds and numbers.randint(0, 4) == 0:
                    word, name, thing = deeds.pop()
                    self.assertEqual(sitting.undone(), (word, name))
                else:
                    try:
                        deeds.append(self.some_deed(numbers, sitting, questions))
                    except (NoSuch, Twice):
                        continue
                copies, sheets, verdicts, marks = self.told_plainly(questions, way, deeds)
                self.assertEqual({person: sitting.copy_of(person) for person in sitting.persons()}, copies)
                self.assertEqual([sitting.sheet_by(person) for person in sorted(copies)],
                                 [sheets.get(person) for person in sorted(copies)])
                self.assertEqual(sitting.verdicts(), verdicts)
                self.assertEqual(sitting.results(), sorted(marks.items(), key=lambda pair: (-pair[1], pair[0])))
                name = numbers.choice(questions).name
                verdict = numbers.choice((("out",), ("all",), ("right", 1)))
                newer = self.told_plainly(questions, way, deeds + [("wrong", name, verdict)])[3]
                self.assertEqual(sitting.if_wrong(name, verdict), [
                    (person, marks[person], newer[person]) for person in sorted(marks) if marks[person] != newer[person]
                ])


class InTime(unittest.TestCase):
    def test_forty_questions_and_many_persons_and_deeds(self):
        bank = Bank([a_question(name, ("sums", "past")[len(name) % 2]) for name in some_names(40)])
        start = time.perf_counter()
        sitting = Sitting(bank, tuple(some_names(40)), 7, "less")
        persons = some_names(120)
        for person in persons:
            sitting.given(person, key_sheet(sitting.handed(person)))
        for number in range(100):
            sitting.found_wrong(some_names(40)[number % 40], (("out",), ("all",), ("right", 1))[number % 3])
        self.assertEqual(sitting, sitting.twin())
        for _ in range(340):
            sitting.undone()
        self.assertEqual(len(sitting), 0)
        self.assertLess(time.perf_counter() - start, 5)


if __name__ == "__main__":
    unittest.main()
