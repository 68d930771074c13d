"""Point [64], paperkin/toils.py: toil that is found by sittings, and moves."""

import time
import unittest

from paperkin.banks import Bank
from paperkin.errors import BadKind, NoPlace, NoSuch
from paperkin.sheets import key_sheet, led_back, led_on
from paperkin.sittings import Sitting
from paperkin.toils import asked_by, found_toil, move_toils, moved_toils
from tests.things import Alike, Case, Stranger, a_question, chance, no_texts, no_whole_numbers, some_names, strangers

NO_SITTINGS = strangers() + [[], (), a_question(), Bank(), Alike()]


def a_sitting(sheets, paper=("a", "b", "c"), bank=None):
    """A sitting with sheets that are told in the paper's order."""
    sitting = Sitting(bank or Bank([a_question(name) for name in ("a", "b", "c", "d")]), paper)
    for number, sheet in enumerate(sheets):
        person = some_names(len(sheets))[number]
        copy = sitting.handed(person)
        if sheet is not None:
            sitting.given(person, led_on(copy, sheet))
    return sitting


def rightly(many, right):
    """A sitting of one question with so many sheets, so many of them right."""
    return a_sitting([(0,)] * right + [(1,)] * (many - right), ("a",))


class Asked(Case):
    def test_of_one(self):
        sitting = a_sitting([(0, 1, None), (0, 0, None), (1, None, 2), None])
        self.assertEqual(asked_by([sitting], "a"), (3, 2))
        self.assertEqual(asked_by((sitting,), "b"), (3, 1))
        self.assertEqual(asked_by(sittings=[sitting], name="c"), (3, 0))
        self.assertIs(type(asked_by([sitting], "a")), tuple)

    def test_of_several_and_of_the_same_twice(self):
        one = a_sitting([(0, 0, 0), (1, 1, 1)])
        other = a_sitting([(0, 1), (0, 1), (0, None)], ("a", "d"))
        self.assertEqual(asked_by([one, other], "a"), (5, 4))
        self.assertEqual(asked_by([one, other], "b"), (2, 1))
        self.assertEqual(asked_by([one, other], "d"), (3, 0))
        self.assertEqual(asked_by([one, one], "a"), (4, 2))
        self.assertEqual(asked_by((other, one, other), "a"), (8, 7))

    def test_out_and_all_that_hold(self):
        for verdict in (("out",), ("all",)):
            one = a_sitting([(0, 0, 0), (1, 1, 1)])
            other = a_sitting([(0, 0, 0)])
            one.found_wrong("a", verdict)
            self.assertEqual(asked_by([one], "a"), (0, 0))
            self.assertEqual(asked_by([one, other], "a"), (1, 1))
            self.assertEqual(asked_by([one], "b"), (2, 1))
            one.undone()
            self.assertEqual(asked_by([one], "a"), (2, 1))
            one.found_wrong("a", verdict)
            one.found_wrong("a", ("right", 1))
            self.assertEqual(asked_by([one, other], "a"), (3, 2))

    def test_right_that_holds(self):
        sitting = a_sitting([(0, 0, 0), (1, 1, 1), (1, None, 2), (2, 2, 2)])
        for number, told in ((0, 1), (1, 2), (2, 1)):
            sitting.found_wrong("a", ("right", number))
            self.assertEqual(asked_by([sitting], "a"), (4, told))

    def test_mended_and_undone_sheets(self):
        sitting = a_sitting([(0, 0, 0), (1, 1, 1)])
        person = some_names(1)[0]
        sitting.mended(person, (None, 0, 0))
        self.assertEqual(asked_by([sitting], "a"), (2, 0))
        sitting.undone()
        sitting.undone()
        self.assertEqual(asked_by([sitting], "a"), (1, 1))

    def test_by_the_questions_as_the_sitting_has_them(self):
        bank = Bank([a_question("a"), a_question("b")])
        sitting = a_sitting([(0, 0), (0, 1)], ("a", "b"), bank)
        bank.put(a_question("a", right=2))
        bank.dropped("b")
        self.assertEqual(asked_by([sitting], "a"), (2, 2))
        self.assertEqual(asked_by([sitting], "b"), (2, 1))

    def test_none_given(self):
        self.assertEqual(asked_by([a_sitting([])], "a"), (0, 0))
        self.assertEqual(asked_by([a_sitting([None])], "a"), (0, 0))
        self.assertIsNone(found_toil([a_sitting([None])], "a"))

    def test_against_the_plainest(self):
        numbers = chance(64)
        for _ in range(30):
            sheets = [tuple([numbers.choice((None, 0, 1, 2)) for _ in "abc"]) for _ in range(numbers.randint(0, 8))]
            sitting = a_sitting(sheets)
            for at, name in enumerate("abc"):
                told = (len(sheets), sum(sheet[at] == 0 for sheet in sheets))
                self.assertEqual(asked_by([sitting], name), told)
                if sheets:
                    self.assertEqual(found_toil([sitting], name), 9 - 8 * told[1] // told[0])


class FoundToil(Case):
    def test_rounded_down(self):
        for many, right, told in (
            (1, 0, 9), (1, 1, 1), (2, 1, 5), (3, 1, 7), (3, 2, 4), (8, 1, 8), (9, 1, 9), (8, 7, 2), (9, 8, 2), (7, 3, 6),
            (10, 10, 1), (10, 9, 2), (16, 1, 9), (16, 2, 8),
        ):
            self.assertEqual(found_toil([rightly(many, right)], "a"), told, (many, right))

    def test_of_several_together(self):
        self.assertEqual(found_toil([rightly(1, 0), rightly(3, 3)], "a"), 3)
        self.assertEqual(found_toil((rightly(2, 0), rightly(2, 2)), "a"), 5)
        self.assertEqual(found_toil(name="a", sittings=(rightly(2, 0),)), 9)

    def test_none(self):
        sitting = rightly(3, 1)
        sitting.found_wrong("a", ("out",))
        self.assertIsNone(found_toil([sitting], "a"))
        sitting.found_wrong("a", ("all",))
        self.assertIsNone(found_toil([sitting], "a"))
        sitting.found_wrong("a", ("right", 1))
        self.assertEqual(found_toil([sitting], "a"), 4)


class RefusedSittings(Case):
    def test_no_list(self):
        for thing in strangers() + [a_question(), a_sitting([]), Bank(), Alike()]:
            for deed in (asked_by, found_toil):
                self.refused(BadKind, "list", deed, thing, "a")
                self.refused(BadKind, "list", deed, thing, None)

    def test_no_sitting(self):
        for thing in NO_SITTINGS:
            for deed in (asked_by, found_toil):
                self.refused(BadKind, "Sitting", deed, [thing], "a")
                self.refused(BadKind, "Sitting", deed, (a_sitting([]), thing), None)

    def test_no_such_name(self):
        for deed in (asked_by, found_toil):
            for thing in no_texts() + ["", "d", "x", "A", "a ", Alike(), Stranger()]:
                self.refused(NoSuch, thing, deed, [a_sitting([(0, 0, 0)])], thing)
                self.refused(NoSuch, thing, deed, [], thing)
            self.refused(NoSuch, "a", deed, (), "a")


class Moved(Case):
    def bank(self, **toils):
        return Bank([a_question(name, toil=toils.get(name, 5)) for name in ("a", "b", "c", "d", "e")])

    def told(self, toil, many, right, steps):
        bank = Bank([a_question("a", toil=toil)])
        told = moved_toils(bank, [rightly(many, right)], steps)
        self.assertEqual(bank, Bank([a_question("a", toil=toil)]))
        return told

    def test_nearer_from_either_side_never_beyond(self):
        for toil in range(1, 10):
            for many, right, found in ((1, 0, 9), (1, 1, 1), (2, 1, 5), (3, 1, 7)):
                for steps in range(1, 9):
                    moved = toil
                    for _ in range(steps):
                        moved += (moved < found) - (moved > found)
                    told = {} if moved == toil else {"a": moved}
                    self.assertEqual(self.told(toil, many, right, steps), told)

    def test_by_one_where_left_out(self):
        bank = self.bank()
        sitting = a_sitting([(0, 1, 0)])
        self.assertEqual(moved_toils(bank, [sitting]), {"a": 4, "b": 6, "c": 4})
        self.assertEqual(moved_toils(steps=3, sittings=(sitting,), bank=bank), {"a": 2, "b": 8, "c": 2})
        self.assertEqual(move_toils(bank, [sitting]), {"a": 4, "b": 6, "c": 4})

    def test_those_that_stay_are_left_out(self):
        sitting = a_sitting([(0, 1, 0), (1, 1, 0)])
        self.assertEqual(moved_toils(self.bank(a=5, b=9, c=1), [sitting], 8), {})
        self.assertEqual(moved_toils(self.bank(a=4, b=9, c=1), [sitting], 8), {"a": 5})
        self.assertEqual(moved_toils(self.bank(), [], 8), {})
        sitting.found_wrong("c", ("out",))
        self.assertEqual(moved_toils(self.bank(), [sitting], 8), {"b": 9})

    def test_names_that_the_bank_has_not(self):
        bank = Bank([a_question("b"), a_question("x")])
        self.assertEqual(moved_toils(bank, [a_sitting([(0, 0, 0)])], 2), {"b": 3})
        self.assertEqual(moved_toils(Bank(), [a_sitting([(0, 0, 0)])], 2), {})

    def test_rising(self):
        bank = Bank([a_question(name) for name in ("c", "a", "b")])
        self.assertEqual(list(moved_toils(bank, [a_sitting([(0, 0, 0)])])), ["a", "b", "c"])
        self.assertEqual(list(move_toils(bank, [a_sitting([(0, 0, 0)])])), ["a", "b", "c"])

    def test_move_toils_leaves_days_and_who_is_out(self):
        bank = self.bank()
        bank.taken_out("a", "bad one")
        bank.used_on("a", 4)
        bank.used_on("b", 5)
        bank.taken_out("d")
        told = bank.twin()
        told.put(told.question("a").changed(toil=3))
        told.put(told.question("b").changed(toil=7))
        sitting = a_sitting([(0, 1, 0), (0, 1, 1)])
        self.assertEqual(move_toils(bank, [sitting], 2), {"a": 3, "b": 7})
        self.assertEqual(bank, told)
        self.assertEqual(move_toils(bank, [sitting], 2), {"a": 1, "b": 9})
        self.assertEqual(move_toils(bank, [sitting], 2), {})
        self.assertEqual([bank.question(name).toil for name in "abcde"], [1, 9, 5, 5, 5])

    def test_the_question_as_the_bank_has_it_now(self):
        bank = Bank([a_question("a", "past", toil=2, marks=7, kin="k", right=1, answers=("x", "y"))])
        move_toils(bank, [rightly(1, 0)], 3)
        self.assertEqual(bank.question("a"), a_question("a", "past", 5, 7, "k", 1, ("x", "y")))

    def test_what_is_told_is_the_askers_own(self):
        bank = self.bank()
        sittings = [a_sitting([(0, 0, 0)])]
        told = move_toils(bank, sittings)
        told["a"] = 9
        told.clear()
        self.assertEqual(bank.question("a").toil, 4)
        self.assertEqual(len(sittings), 1)
        self.assertEqual(sittings[0], a_sitting([(0, 0, 0)]))

    def test_refused_in_order(self):
        bank = self.bank()
        sitting = a_sitting([(0, 0, 0)])
        for deed in (moved_toils, move_toils):
            for thing in strangers() + [[], (), a_question(), sitting, Alike()]:
                self.refused(BadKind, "Bank", deed, thing, [sitting], 1)
                self.refused(BadKind, "Bank", deed, thing, None, None)
            for thing in strangers() + [a_question(), sitting, bank, Alike()]:
                self.refused(BadKind, "list", deed, bank, thing, 1)
                self.refused(BadKind, "list", deed, bank, thing, 0)
            for thing in NO_SITTINGS:
                self.refused(BadKind, "Sitting", deed, bank, [sitting, thing], 1)
                self.refused(BadKind, "Sitting", deed, bank, (thing,), None)
            for thing in no_whole_numbers() + [0, 9, -1, 10 ** 3999, Alike()]:
                self.refused(NoPlace, thing, deed, bank, [sitting], thing)
                self.refused(NoPlace, thing, deed, bank, [], thing)
        self.assertEqual(bank, self.bank())


class InTime(unittest.TestCase):
    def test_sixty_questions_and_many_sheets(self):
        bank = Bank([a_question(name) for name in some_names(60)])
        sittings = []
        for _ in range(5):
            sitting = Sitting(bank, tuple(some_names(40)))
            for person in some_names(100):
                copy = sitting.handed(person)
                sitting.given(person, key_sheet(copy))
            sittings.append(sitting)
        self.assertEqual(led_back(sittings[0].copy_of("ab"), sittings[0].sheet_by("ab")), (0,) * 40)
        start = time.perf_counter()
        self.assertEqual(move_toils(bank, sittings, 8), {name: 1 for name in some_names(40)})
        self.assertLess(time.perf_counter() - start, 2)


if __name__ == "__main__":
    unittest.main()
