"""Point [52], paperkin/sheets.py: sheets of copies, led back and on, and written."""

import time
import unittest

from paperkin.banks import Bank
from paperkin.copies import Copy
from paperkin.errors import BadKind, BadSheet, BadText
from paperkin.questions import Question
from paperkin.sheets import changed_at, key_sheet, led_back, led_on, need_sheet, sheet_of, sheet_text
from tests.things import Alike, Case, a_question, chance, no_texts, no_whole_numbers, some_names, strangers

TEXTS = ("one", "two", "three", "four", "five", "six")


def some_copy(numbers, most=8):
    """A copy of a paper of questions with two to six answers."""
    names = some_names(numbers.randint(1, most))
    bank = Bank()
    for name in names:
        many = numbers.randint(2, 6)
        bank.added(a_question(name, answers=TEXTS[:many], right=numbers.randint(0, many - 1)))
    return Copy(bank, tuple(names), numbers.choice((0, 1, 2, len(names), numbers.randint(0, 999), 999)))


def some_sheet(numbers, copy):
    counts = [len(copy.question_at(place)) for place in range(len(copy))]
    return tuple([numbers.choice([None] + list(range(many))) for many in counts])


def texts_by_name(copy, sheet):
    """The answers' texts that a sheet gives, by their questions' names."""
    told = {}
    for place, answer in enumerate(sheet):
        question = copy.question_at(place)
        told[question.name] = None if answer is None else question.answers[answer]
    return told


def a_copy(number=1):
    """Three questions of two, three and four answers; of number 1 they stand as three, four, two."""
    bank = Bank([
        a_question("a", answers=TEXTS[:2], right=1), a_question("b", answers=TEXTS[:3], right=2),
        a_question("c", answers=TEXTS[:4], right=0),
    ])
    return Copy(bank, ("a", "b", "c"), number)


NO_COPIES = strangers() + [[], (), a_question(), Bank(), Alike(), [a_copy()]]
SHEET_DEEDS = (need_sheet, led_back, led_on, sheet_text)


class LedBackAndOn(Case):
    def test_by_hand(self):
        copy = a_copy()
        # b turned by 1, c turned by 2, a turned by 3.
        self.assertEqual([each.answers for each in map(copy.question_at, range(3))],
                         [("two", "three", "one"), ("three", "four", "one", "two"), ("two", "one")])
        self.assertEqual(led_back(copy, (0, 0, 0)), (1, 1, 2))
        self.assertEqual(led_back(copy, (2, 3, 1)), (0, 0, 1))
        self.assertEqual(led_back(copy, (2, None, None)), (None, 0, None))
        self.assertEqual(led_back(copy, (None, None, None)), (None, None, None))
        self.assertEqual(led_on(copy, (1, 1, 2)), (0, 0, 0))
        self.assertEqual(led_on(copy, (0, 0, 1)), (2, 3, 1))
        self.assertEqual(led_on(copy, (None, 0, None)), (2, None, None))
        self.assertEqual(led_on(sheet=(None, 0, None), copy=copy), (2, None, None))
        self.assertEqual(led_back(sheet=(0, 0, 0), copy=copy), (1, 1, 2))

    def test_of_number_nought_as_they_are(self):
        copy = a_copy(0)
        for sheet in ((0, 0, 0), (1, 2, 3), (None, 1, None)):
            self.assertEqual(led_back(copy, sheet), sheet)
            self.assertEqual(led_on(copy, sheet), sheet)

    def test_the_same_texts_and_the_other_way_about(self):
        numbers = chance(52)
        for _ in range(200):
            copy = some_copy(numbers)
            sheet = some_sheet(numbers, copy)
            back = led_back(copy, sheet)
            self.assertIs(type(back), tuple)
            self.assertEqual(texts_by_name(copy.first_one(), back), texts_by_name(copy, sheet))
            self.assertEqual(led_on(copy, back), sheet)
            first = some_sheet(numbers, copy.first_one())
            on = led_on(copy, first)
            self.assertIs(type(on), tuple)
            self.assertEqual(texts_by_name(copy, on), texts_by_name(copy.first_one(), first))
            self.assertEqual(led_back(copy, on), first)

    def test_led_on_is_refused_by_the_places_of_number_nought(self):
        copy = a_copy()
        self.refused(BadSheet, 0, led_on, copy, (2, 0, 0))
        self.refused(BadSheet, 1, led_on, copy, (1, 3, 4))
        self.refused(BadSheet, 2, led_on, copy, (1, 2, 4))
        self.assertEqual(led_on(copy, (1, 2, 3)), (1, 1, 0))
        self.refused(BadSheet, 0, led_back, copy, (3, 0, 0))
        self.refused(BadSheet, 1, led_back, copy, (2, 4, 2))
        self.refused(BadSheet, 2, led_back, copy, (2, 3, 2))


class KeySheet(Case):
    def test_by_hand(self):
        self.assertEqual(key_sheet(a_copy(0)), (1, 2, 0))
        self.assertEqual(key_sheet(a_copy(1)), (1, 2, 0))
        self.assertEqual(key_sheet(copy=a_copy(2)), (2, 1, 2))

    def test_all_right_ones(self):
        numbers = chance(53)
        for _ in range(100):
            copy = some_copy(numbers)
            key = key_sheet(copy)
            self.assertIs(type(key), tuple)
            self.assertEqual(key, tuple([copy.question_at(place).right for place in range(len(copy))]))
            self.assertEqual(led_back(copy, key), key_sheet(copy.first_one()))

    def test_refused(self):
        for thing in NO_COPIES:
            self.refused(BadKind, "Copy", key_sheet, thing)


class ChangedAt(Case):
    def test_names(self):
        copy = a_copy()
        for other, told in (
            ((0, 0, 0), []), ((1, 0, 0), ["b"]), ((0, 0, 1), ["a"]), ((1, 1, 1), ["a", "b", "c"]),
            ((None, 0, 0), ["b"]), ((0, None, None), ["a", "c"]),
        ):
            self.assertEqual(changed_at(copy, (0, 0, 0), other), told)
            self.assertEqual(changed_at(copy, other, (0, 0, 0)), told)
        self.assertEqual(changed_at(copy, (None,) * 3, (None,) * 3), [])
        self.assertEqual(changed_at(other=(1, 0, 0), sheet=(0, 0, 0), copy=copy), ["b"])

    def test_the_list_is_the_askers_own(self):
        copy = a_copy()
        changed_at(copy, (0, 0, 0), (1, 1, 1)).clear()
        self.assertEqual(changed_at(copy, (0, 0, 0), (1, 1, 1)), ["a", "b", "c"])

    def test_refused(self):
        copy = a_copy()
        for thing in NO_COPIES:
            self.refused(BadKind, "Copy", changed_at, thing, (0, 0, 0), (0, 0, 0))
            self.refused(BadKind, "Copy", changed_at, thing, None, None)
        self.refused(BadSheet, None, changed_at, copy, (0, 0), (3, 0, 0))
        self.refused(BadSheet, 2, changed_at, copy, (0, 0, 9), (3, 0, 0))
        self.refused(BadSheet, 2, changed_at, copy, (0, 0, 9), None)
        self.refused(BadSheet, 0, changed_at, copy, (0, 0, 0), (3, 0, 0))
        self.refused(BadSheet, None, changed_at, copy, (0, 0, 0), [0, 0, 0])


class NeedSheet(Case):
    def test_sheets(self):
        for sheet in ((0, 0, 0), (2, 3, 1), (None, None, None), (None, 3, 0)):
            self.assertIsNone(need_sheet(a_copy(), sheet))
        self.assertIsNone(need_sheet(sheet=(0, 0, 0), copy=a_copy()))

    def test_no_copy_first(self):
        for thing in NO_COPIES:
            for deed in SHEET_DEEDS:
                self.refused(BadKind, "Copy", deed, thing, (0, 0, 0))
                self.refused(BadKind, "Copy", deed, thing, None)
            self.refused(BadKind, "Copy", sheet_of, thing, "a a a")
            self.refused(BadKind, "Copy", sheet_of, thing, None)

    def test_no_tuple_of_so_many(self):
        for thing in strangers() + [
            (), (0,), (0, 0), (0, 0, 0, 0), [0, 0, 0], [], "000", {0: 0, 1: 0, 2: 0}, {0, 1, 2}, (9, 9), ["x"],
            Alike(), a_question(), (0, 0, 0, None), range(3),
        ]:
            for deed in SHEET_DEEDS:
                self.refused(BadSheet, None, deed, a_copy(), thing)

    def test_the_first_place_that_can_not_be(self):
        for sheet, at in (
            ((3, 4, 2), 0), ((-1, 0, 0), 0), ((0, 4, 2), 1), ((0, 0, 2), 2), ((0, -1, -1), 1), ((0, None, 10 ** 3999), 2),
        ):
            for deed in (need_sheet, led_back, sheet_text):
                self.refused(BadSheet, at, deed, a_copy(), sheet)
        for thing in no_whole_numbers() + [Alike()]:
            if thing is None:
                continue
            for deed in SHEET_DEEDS:
                self.refused(BadSheet, 0, deed, a_copy(), (thing, thing, thing))
                self.refused(BadSheet, 1, deed, a_copy(), (0, thing, thing))
                self.refused(BadSheet, 2, deed, a_copy(), (None, 0, thing))

    def test_truths_are_no_numbers(self):
        for deed in SHEET_DEEDS:
            self.refused(BadSheet, 0, deed, a_copy(), (True, 0, 0))
            self.refused(BadSheet, 2, deed, a_copy(), (0, 0, False))


class Written(Case):
    def test_by_hand(self):
        copy = a_copy()
        for sheet, text in (
            ((0, 0, 0), "a a a"), ((2, 3, 1), "c d b"), ((None, None, None), "- - -"), ((None, 3, None), "- d -"),
        ):
            self.assertEqual(sheet_text(copy, sheet), text)
            self.assertEqual(sheet_of(copy, text), sheet)
            self.assertIs(type(sheet_of(copy, text)), tuple)
        six = Copy(Bank([Question("a", "m", TEXTS)]), ("a",))
        self.assertEqual([sheet_text(six, (number,)) for number in range(6)], ["a", "b", "c", "d", "e", "f"])
        self.assertEqual([sheet_of(six, letter) for letter in "abcdef-"],
                         [(0,), (1,), (2,), (3,), (4,), (5,), (None,)])
        self.assertEqual(sheet_text(sheet=(0,), copy=six), "a")
        self.assertEqual(sheet_of(text="a", copy=six), (0,))

    def test_of_each_other(self):
        numbers = chance(54)
        for _ in range(100):
            copy = some_copy(numbers)
            sheet = some_sheet(numbers, copy)
            self.assertEqual(sheet_of(copy, sheet_text(copy, sheet)), sheet)

    def test_blanks_mean_nothing(self):
        for text in (" c d b", "c d b ", "  c   d b    ", "c  d  b"):
            self.assertEqual(sheet_of(a_copy(), text), (2, 3, 1))

    def test_no_text(self):
        for thing in no_texts() + [Alike()]:
            with self.assertRaises(BadText):
                sheet_of(a_copy(), thing)

    def test_too_few_and_too_many_words(self):
        for text in ("", " ", "   ", "a", "a a", "a a a a", "aaa", "x", "x x", "x x x x", "a a\na", "a\na\na", "a,a,a"):
            self.refused(BadSheet, None, sheet_of, a_copy(), text)
        one = Copy(Bank([Question("a", "m", TEXTS)]), ("a",))
        for text in ("", " ", "    ", "a a", "- -"):
            self.refused(BadSheet, None, sheet_of, one, text)

    def test_words_that_can_not_stand(self):
        for text, at in (
            ("d a a", 0), ("a e a", 1), ("a a c", 2), ("A a a", 0), ("a A a", 1), ("a a B", 2), ("a aa a", 1),
            ("a a ab", 2), ("0 a a", 0), ("a 1 a", 1), ("-- a a", 0), ("a a\n a", 1), ("a a \n", 2), ("a ? g", 1),
            ("a -a a", 1), ("a\n a a", 0), ("a a None", 2), ("a\t a a", 0), ("z z z", 0), ("{ a a", 0), ("` a a", 0),
        ):
            self.refused(BadSheet, at, sheet_of, a_copy(), text)


class HandedIn(Case):
    def test_what_is_handed_in_stays(self):
        copy = a_copy()
        sheet = (0, None, 1)
        for deed in (need_sheet, led_back, sheet_text):
            deed(copy, sheet)
        changed_at(copy, sheet, (0, 0, 0))
        self.assertEqual(sheet, (0, None, 1))
        self.assertEqual(copy, a_copy())
        self.assertEqual(copy.number, 1)


class InTime(unittest.TestCase):
    def test_forty_questions(self):
        bank = Bank([Question(name, "sums", TEXTS) for name in some_names(40)])
        copy = Copy(bank, tuple(some_names(40)), 777)
        start = time.perf_counter()
        for _ in range(200):
            key = key_sheet(copy)
            self.assertEqual(led_on(copy, led_back(copy, key)), key)
            self.assertEqual(sheet_of(copy, sheet_text(copy, key)), key)
            self.assertEqual(changed_at(copy, key, key), [])
        self.assertLess(time.perf_counter() - start, 3)


if __name__ == "__main__":
    unittest.main()
