"""Points [50] and [51], paperkin/copies.py: copies of papers that go round."""

import time
import unittest

from paperkin.banks import Bank
from paperkin.copies import Copy, apart_numbers, meet_at, need_copy, round_length
from paperkin.errors import BadKind, BadPaper, NoPlace, NoSuch, TooMany
from paperkin.questions import Question
from tests.things import Alike, Case, Stranger, a_question, chance, no_texts, no_whole_numbers, some_names, strangers

TEXTS = ("one", "two", "three", "four", "five", "six")
NUMBERS = (0, 1, 2, 3, 4, 5, 6, 7, 9, 10, 11, 12, 39, 40, 41, 79, 80, 81, 119, 120, 499, 500, 998, 999)


def bank_of(counts, right=0):
    """A bank of questions with so many answers each."""
    names = some_names(len(counts))
    return Bank([a_question(name, answers=TEXTS[:many], right=right) for name, many in zip(names, counts)])


def mixed_bank(many):
    return bank_of([2 + number * 3 % 5 for number in range(many)])


def told_plainly(bank, paper, number):
    """The questions of a copy, by the words of the document."""
    many = len(paper)
    told = []
    for place in range(many):
        at = place + number
        while at >= many:
            at -= many
        told.append(bank.question(paper[at]).turned(number * (place + 1)))
    return told


def told_by(copy):
    return [copy.question_at(place) for place in range(len(copy))]


class Copies(Case):
    def test_number_nought_is_the_paper_as_it_stands(self):
        for many in (1, 2, 5, 40):
            bank = mixed_bank(many)
            paper = tuple(bank.names())
            for copy in (Copy(bank, paper), Copy(bank, paper, 0), Copy(number=0, paper=paper, bank=bank)):
                self.assertEqual(copy.number, 0)
                self.assertEqual(copy.told_names(), list(paper))
                self.assertEqual(told_by(copy), [bank.question(name) for name in paper])

    def test_by_hand(self):
        bank = bank_of((2, 3, 4), right=1)
        copy = Copy(bank, ("aa", "ab", "ac"), 2)
        self.assertEqual(copy.told_names(), ["ac", "aa", "ab"])
        self.assertEqual(copy.question_at(0).answers, ("three", "four", "one", "two"))
        self.assertEqual(copy.question_at(0).right, 3)
        self.assertEqual(copy.question_at(1).answers, ("one", "two"))
        self.assertEqual(copy.question_at(2).answers, ("one", "two", "three"))
        self.assertEqual([copy.origin(place) for place in (0, 1, 2)], [(2, 2), (0, 0), (1, 0)])
        self.assertEqual([copy.place_of(name) for name in ("aa", "ab", "ac")], [1, 2, 0])

    def test_each_place_of_many_copies(self):
        for many in (1, 2, 3, 7, 40):
            bank = mixed_bank(many)
            paper = tuple(bank.names())
            for number in NUMBERS:
                copy = Copy(bank, paper, number)
                told = told_plainly(bank, paper, number)
                self.assertEqual(copy.number, number)
                self.assertEqual(told_by(copy), told)
                self.assertEqual(copy.told_names(), [each.name for each in told])
                self.assertEqual(str(copy), " ".join(copy.told_names()))
                for place, question in enumerate(told):
                    self.assertEqual(copy.place_of(question.name), place)
                    at, turn = copy.origin(place)
                    self.assertEqual(paper[at], question.name)
                    self.assertTrue(0 <= turn < len(question))
                    self.assertEqual(bank.question(question.name).turned(turn), question)

    def test_some_names_of_a_bank(self):
        bank = mixed_bank(9)
        paper = ("ab", "ad", "ag")
        copy = Copy(bank, paper, 5)
        self.assertEqual(told_by(copy), told_plainly(bank, paper, 5))
        self.refused(NoSuch, "aa", copy.place_of, "aa")

    def test_origin_is_a_pair(self):
        copy = Copy(mixed_bank(3), ("aa", "ab", "ac"), 7)
        self.assertIs(type(copy.origin(1)), tuple)
        self.assertEqual(len(copy.origin(1)), 2)

    def test_the_told_list_is_the_askers_own(self):
        copy = Copy(mixed_bank(3), ("aa", "ab", "ac"), 1)
        told = copy.told_names()
        told.append("x")
        told[0] = "y"
        self.assertEqual(copy.told_names(), ["ab", "ac", "aa"])

    def test_what_is_done_to_the_bank_later_changes_no_copy(self):
        bank = mixed_bank(5)
        paper = tuple(bank.names())
        copies = [Copy(bank, paper, number) for number in (0, 1, 7)]
        told = [told_by(copy) for copy in copies]
        bank.put(a_question("aa", "past", 9, 9, "k", 1, ("x", "y")))
        bank.taken_out("ab")
        bank.dropped("ac")
        bank.used_on("ad", 5)
        bank.added(a_question("b"))
        self.assertEqual([told_by(copy) for copy in copies], told)
        self.assertEqual(told_by(copies[1].gone_on(6)), told[2])
        self.assertEqual(told_by(copies[2].first_one()), told[0])
        self.assertEqual(copies[0].told_names(), ["aa", "ab", "ac", "ad", "ae"])

    def test_making_one_leaves_the_bank(self):
        bank = mixed_bank(5)
        before = bank.twin()
        copy = Copy(bank, ("aa", "ab"), 3)
        copy.gone_on(4)
        copy.first_one()
        self.assertEqual(bank, before)


class GoneOn(Case):
    def test_by_so_many(self):
        bank = mixed_bank(4)
        paper = tuple(bank.names())
        copy = Copy(bank, paper, 10)
        for by, number in ((1, 11), (0, 10), (-1, 9), (-10, 0), (5, 15), (989, 999)):
            other = copy.gone_on(by)
            self.assertEqual(other.number, number)
            self.assertEqual(told_by(other), told_plainly(bank, paper, number))
        self.assertEqual(copy.gone_on().number, 11)
        self.assertEqual(copy.gone_on(by=2).number, 12)
        self.assertEqual(copy.number, 10)
        self.assertEqual(copy.first_one().number, 0)
        self.assertEqual(told_by(copy.first_one()), told_plainly(bank, paper, 0))
        self.assertEqual(copy.first_one().first_one().gone_on(999).number, 999)

    def test_beyond_the_bounds(self):
        copy = Copy(mixed_bank(4), ("aa",), 10)
        for by in (-11, 990, 991, -1000, 10 ** 3999, -(10 ** 3999)):
            self.refused(NoPlace, by, copy.gone_on, by)
        self.refused(NoPlace, -1, copy.first_one().gone_on, -1)
        self.refused(NoPlace, 1, copy.gone_on(989).gone_on, 1)
        self.refused(NoPlace, 1, copy.gone_on(989).gone_on)

    def test_no_whole_number(self):
        copy = Copy(mixed_bank(4), ("aa",), 10)
        for thing in no_whole_numbers():
            self.refused(NoPlace, thing, copy.gone_on, thing)
        self.assertEqual(copy.number, 10)


class RefusedCopies(Case):
    def test_no_bank_first(self):
        for thing in strangers() + [[], (), a_question(), Copy(mixed_bank(1), ("aa",))]:
            self.refused(BadKind, "Bank", Copy, thing, ("aa",), 0)
            self.refused(BadKind, "Bank", Copy, thing, None, None)

    def test_then_the_paper(self):
        bank = mixed_bank(4)
        bank.taken_out("ab")
        for thing in strangers() + [(), [], ["aa"], ("ac", "aa"), ("aa", "aa"), ("aa", 1), ("A",)]:
            self.refused(BadPaper, None, Copy, bank, thing, 0)
            self.refused(BadPaper, None, Copy, bank, thing, -1)
        self.refused(BadPaper, "ab", Copy, bank, ("aa", "ab", "x"), 0)
        self.refused(BadPaper, "aaa", Copy, bank, ("aa", "aaa", "ab"), None)

    def test_then_the_number(self):
        bank = mixed_bank(4)
        for thing in no_whole_numbers() + [-1, 1000, 1001, 10 ** 3999, -(10 ** 3999), Alike()]:
            self.refused(NoPlace, thing, Copy, bank, ("aa",), thing)

    def test_places(self):
        copy = Copy(mixed_bank(3), ("aa", "ab", "ac"), 2)
        for thing in no_whole_numbers() + [-1, 3, 4, -3, 10 ** 3999, Alike()]:
            self.refused(NoPlace, thing, copy.question_at, thing)
            self.refused(NoPlace, thing, copy.origin, thing)

    def test_names(self):
        copy = Copy(mixed_bank(3), ("aa", "ab"), 2)
        for thing in no_texts() + ["", "ac", "x", "AA", " aa", "aa ", "aa ab", Alike(), Stranger()]:
            self.refused(NoSuch, thing, copy.place_of, thing)

    def test_need_copy(self):
        self.assertIsNone(need_copy(Copy(mixed_bank(1), ("aa",))))
        self.assertIsNone(need_copy(thing=Copy(mixed_bank(1), ("aa",), 7)))
        for thing in strangers() + [[], (), a_question(), Bank(), Alike(), Copy, [Copy(mixed_bank(1), ("aa",))]]:
            self.refused(BadKind, "Copy", need_copy, thing)


class Equal(Case):
    def test_of_the_same_paper(self):
        bank = mixed_bank(4)
        paper = tuple(bank.names())
        self.assertTrue(Copy(bank, paper, 3) == Copy(bank, paper, 3))
        self.assertFalse(Copy(bank, paper, 3) != Copy(bank, paper, 3))
        self.assertFalse(Copy(bank, paper, 3) == Copy(bank, paper, 4))
        self.assertTrue(Copy(bank, paper, 3) != Copy(bank, paper, 7))
        self.assertTrue(Copy(bank, paper, 3) == Copy(bank.twin(), paper, 3))

    def test_numbers_that_lead_to_equal_questions(self):
        bank = bank_of((2, 2))
        paper = ("aa", "ab")
        self.assertEqual(Copy(bank, paper, 0), Copy(bank, paper, 2))
        self.assertEqual(Copy(bank, paper, 1), Copy(bank, paper, 999))
        self.assertNotEqual(Copy(bank, paper, 0), Copy(bank, paper, 1))
        self.assertEqual(repr(Copy(bank, paper, 2)), "Copy(2)")
        one = bank_of((3,))
        self.assertEqual([Copy(one, ("aa",), number) == Copy(one, ("aa",), 1) for number in range(7)],
                         [False, True, False, False, True, False, False])

    def test_of_other_banks(self):
        bank = bank_of((3,))
        turned = Bank([bank.question("aa").turned(2)])
        self.assertEqual(Copy(bank, ("aa",), 2), Copy(turned, ("aa",), 0))
        self.assertNotEqual(Copy(bank, ("aa",), 2), Copy(turned, ("aa",), 2))
        for other in (
            a_question("aa", "past", answers=TEXTS[:3]), a_question("aa", toil=6, answers=TEXTS[:3]),
            a_question("aa", marks=2, answers=TEXTS[:3]), a_question("aa", kin="k", answers=TEXTS[:3]),
            a_question("aa", right=1, answers=TEXTS[:3]), a_question("aa", answers=("one", "two", "x")),
            a_question("aa", answers=TEXTS[:4]),
        ):
            self.assertNotEqual(Copy(bank, ("aa",)), Copy(Bank([other]), ("aa",)))

    def test_as_many(self):
        bank = mixed_bank(4)
        self.assertNotEqual(Copy(bank, ("aa", "ab")), Copy(bank, ("aa", "ab", "ac")))
        self.assertNotEqual(Copy(bank, ("aa",)), Copy(bank, ("ab",)))
        self.assertNotEqual(Copy(bank, ("aa", "ab"), 1), Copy(bank, ("aa", "ac"), 1))

    def test_to_what_is_no_copy(self):
        copy = Copy(mixed_bank(2), ("aa", "ab"), 1)
        for thing in strangers() + [[], (), a_question(), ("ab", "aa"), "ab aa", Bank()]:
            self.assertIs(copy == thing, False)
            self.assertIs(copy != thing, True)

    def test_length_text_and_shown(self):
        for many in (1, 2, 40):
            bank = mixed_bank(many)
            for number in (0, 1, 999):
                copy = Copy(bank, tuple(bank.names()), number)
                self.assertEqual(len(copy), many)
                self.assertIs(bool(copy), True)
                self.assertEqual(repr(copy), "Copy(" + str(number) + ")")
        self.assertEqual(str(Copy(mixed_bank(3), ("aa", "ab", "ac"), 2)), "ac aa ab")
        self.assertEqual(str(Copy(mixed_bank(3), ("ab",), 2)), "ab")


def round_plainly(bank, paper):
    """The least number from 1 on that leads to number 0, by trying each."""
    first = told_plainly(bank, paper, 0)
    number = 1
    while [bank.question(paper[(place + number) % len(paper)]).turned(number * (place + 1))
           for place in range(len(paper))] != first:
        number += 1
    return number


class RoundLength(Case):
    def test_by_hand(self):
        for counts, told in (
            ((2,), 2), ((3,), 3), ((6,), 6), ((2, 2), 2), ((2, 3), 6), ((2, 4), 2), ((3, 6), 6), ((4, 4), 4),
            ((5, 5), 10), ((2, 2, 3), 6), ((2, 2, 2), 6), ((6, 6, 6), 6), ((4, 4, 4, 4), 4), ((5,) * 5, 5), ((6,) * 7, 42),
        ):
            bank = bank_of(counts)
            self.assertEqual(round_length(Copy(bank, tuple(bank.names()))), told, counts)
            self.assertEqual(round_plainly(bank, tuple(bank.names())), told, counts)

    def test_of_any_number(self):
        bank = mixed_bank(7)
        paper = tuple(bank.names())
        for number in (0, 1, 5, 7, 999):
            self.assertEqual(round_length(Copy(bank, paper, number)), round_plainly(bank, paper))
        self.assertEqual(round_length(copy=Copy(bank, paper)), round_plainly(bank, paper))

    def test_of_many_papers(self):
        numbers = chance(50)
        for _ in range(60):
            bank = bank_of([numbers.randint(2, 6) for _ in range(numbers.randint(1, 8))])
            paper = tuple(bank.names())
            self.assertEqual(round_length(Copy(bank, paper, numbers.randint(0, 999))), round_plainly(bank, paper))

    def test_beyond_all_numbers(self):
        bank = bank_of([2 + number % 5 for number in range(37)])
        self.assertEqual(round_length(Copy(bank, tuple(bank.names()))), 37 * 60)

    def test_refused(self):
        for thing in strangers() + [[], (), a_question(), Bank(), Alike()]:
            self.refused(BadKind, "Copy", round_length, thing)


class MeetAt(Case):
    def test_of_one_paper(self):
        bank = mixed_bank(5)
        paper = tuple(bank.names())
        for one in range(0, 12):
            for other in range(0, 12):
                told = [0, 1, 2, 3, 4] if one % 5 == other % 5 else []
                self.assertEqual(meet_at(Copy(bank, paper, one), Copy(bank, paper, other)), told)

    def test_of_unlike_papers(self):
        bank = mixed_bank(6)
        one = Copy(bank, ("aa", "ab", "ac", "ae"))
        other = Copy(bank, ("aa", "ac", "ad", "ae", "af"))
        self.assertEqual(meet_at(one, other), [0, 3])
        self.assertEqual(meet_at(other, one), [0, 3])
        self.assertEqual(meet_at(one, other.gone_on(4)), [2])
        self.assertEqual(meet_at(other, Copy(bank, ("ac",), 3)), [])
        self.assertEqual(meet_at(other.gone_on(1), Copy(bank, ("ac",), 3)), [0])

    def test_of_other_banks_by_the_name_alone(self):
        one = Copy(bank_of((2, 3)), ("aa", "ab"))
        other = Copy(bank_of((5, 6)), ("aa", "ab"))
        self.assertEqual(meet_at(one, other), [0, 1])
        self.assertEqual(meet_at(other=other, one=one), [0, 1])

    def test_refused(self):
        copy = Copy(mixed_bank(2), ("aa",))
        for thing in strangers() + [[], (), a_question(), Bank(), Alike()]:
            self.refused(BadKind, "Copy", meet_at, thing, copy)
            self.refused(BadKind, "Copy", meet_at, copy, thing)
            self.refused(BadKind, "Copy", meet_at, thing, thing)


def apart_plainly(copy, many):
    """The first so many numbers whose copies don't meet those ahead."""
    found = []
    number = 0
    while len(found) < many:
        here = copy.first_one().gone_on(number)
        if all(meet_at(here, copy.first_one().gone_on(each)) == [] for each in found):
            found.append(number)
        number += 1
    return found


class ApartNumbers(Case):
    def test_numbers(self):
        for size in (1, 2, 3, 7):
            bank = mixed_bank(size)
            for number in (0, 1, 5, 999):
                copy = Copy(bank, tuple(bank.names()), number)
                for many in range(size + 1):
                    self.assertEqual(apart_numbers(copy, many), apart_plainly(copy, many))
                    self.assertEqual(len(apart_numbers(copy, many)), many)
        self.assertEqual(apart_numbers(Copy(mixed_bank(3), ("aa", "ab", "ac"), 2)), [0, 1])
        self.assertEqual(apart_numbers(many=3, copy=Copy(mixed_bank(3), ("aa", "ab", "ac"), 2)), [0, 1, 2])

    def test_the_list_is_the_askers_own(self):
        copy = Copy(mixed_bank(3), ("aa", "ab", "ac"))
        apart_numbers(copy, 3).append(9)
        self.assertEqual(apart_numbers(copy, 3), [0, 1, 2])

    def test_refused(self):
        copy = Copy(mixed_bank(3), ("aa", "ab", "ac"), 2)
        for thing in strangers() + [[], (), a_question(), Bank(), Alike()]:
            for many in (2, -1, 1000, None):
                self.refused(BadKind, "Copy", apart_numbers, thing, many)
        for thing in no_whole_numbers() + [-1, 1000, 10 ** 3999]:
            self.refused(NoPlace, thing, apart_numbers, copy, thing)
        for many in (4, 5, 998, 999):
            self.refused(TooMany, 3, apart_numbers, copy, many)
        self.refused(TooMany, 1, apart_numbers, Copy(mixed_bank(1), ("aa",)))
        forty = mixed_bank(40)
        self.assertEqual(apart_numbers(Copy(forty, tuple(forty.names())), 40), list(range(40)))
        self.refused(TooMany, 40, apart_numbers, Copy(forty, tuple(forty.names())), 41)


class InTime(unittest.TestCase):
    def test_forty_questions(self):
        bank = Bank([Question(name, "sums", TEXTS) for name in some_names(60)])
        paper = tuple(some_names(40))
        start = time.perf_counter()
        for number in range(0, 1000, 10):
            copy = Copy(bank, paper, number)
            self.assertEqual(copy, copy.first_one().gone_on(number))
            self.assertEqual(len(meet_at(copy, copy.gone_on(1 if number < 500 else -1))), 0)
            self.assertEqual(round_length(copy), 120)
        self.assertLess(time.perf_counter() - start, 3)


if __name__ == "__main__":
    unittest.main()
