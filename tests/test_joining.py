"""Point [70], paperkin/joining.py: questions that are twins, and banks joined."""

import itertools
import string
import time
import unittest

from paperkin.banks import Bank
from paperkin.errors import BadKind, TooMany
from paperkin.joining import are_twins, free_name, joined_banks, twins_of
from paperkin.questions import Question
from tests.things import Alike, Case, a_question, chance, some_names, strangers


def unlike(name, text=None, **more):
    """A question that is a twin just of those with the same text."""
    return a_question(name, answers=(text or name, "no"), **more)


def seen(bank):
    """All of a bank, as plain values."""
    return {
        name: (str(bank.question(name)), bank.question(name).answers, bank.question(name).right, bank.days_of(name),
               dict(bank.outs()).get(name))
        for name in bank.names()
    }


class Twins(Case):
    def test_answers_in_whatever_order(self):
        one = Question("a", "sums", ("x", "y", "z"), right=1)
        for answers in itertools.permutations(("x", "y", "z")):
            other = Question("b", "sums", answers, right=answers.index("y"), toil=9, marks=9, kin="k")
            self.assertIs(are_twins(one, other), True)
            self.assertIs(are_twins(other, one), True)
        for by in range(5):
            self.assertIs(are_twins(one, one.turned(by)), True)
        self.assertIs(are_twins(other=one, one=one), True)

    def test_no_twins(self):
        one = Question("a", "sums", ("x", "y", "z"), right=1)
        for other in (
            Question("a", "past", ("x", "y", "z"), right=1), Question("a", "sums", ("x", "y", "z"), right=0),
            Question("a", "sums", ("x", "y", "w"), right=1), Question("a", "sums", ("x", "y"), right=1),
            Question("a", "sums", ("x", "y", "z", "w"), right=1), Question("a", "sums", ("y", "x", "z"), right=1),
            Question("a", "sums", ("x", "Y", "z"), right=1),
        ):
            self.assertIs(are_twins(one, other), False)
            self.assertIs(are_twins(other, one), False)

    def test_refused(self):
        for thing in strangers() + [[], (), Bank(), Alike()]:
            self.refused(BadKind, "Question", are_twins, thing, a_question())
            self.refused(BadKind, "Question", are_twins, a_question(), thing)
            self.refused(BadKind, "Question", are_twins, thing, thing)

    def test_twins_of(self):
        one = Bank([unlike("d", "x"), unlike("a", "x"), unlike("b", "y"), unlike("c", "z")])
        other = Bank([unlike("q", "x"), unlike("p", "x"), unlike("c", "y"), unlike("r", "w")])
        told = [("a", "p"), ("a", "q"), ("b", "c"), ("d", "p"), ("d", "q")]
        self.assertEqual(twins_of(one, other), told)
        self.assertEqual(twins_of(other=other, bank=one), told)
        self.assertEqual(twins_of(other, one), sorted((there, here) for here, there in told))
        self.assertEqual(twins_of(one, Bank()), [])
        self.assertEqual(twins_of(Bank(), one), [])
        one.taken_out("a")
        other.taken_out("c")
        self.assertEqual(twins_of(one, other), told)

    def test_twins_of_refused(self):
        for thing in strangers() + [[], (), a_question(), Alike()]:
            for deed in (twins_of, joined_banks):
                self.refused(BadKind, "Bank", deed, thing, Bank())
                self.refused(BadKind, "Bank", deed, Bank(), thing)
                self.refused(BadKind, "Bank", deed, thing, thing)


class FreeName(Case):
    def test_free_as_it_is(self):
        for names in ([], (), ["b"], ("ab", "aa"), ["aaaaaaaa"]):
            self.assertEqual(free_name(names, "a"), "a")
        self.assertEqual(free_name(name="abcdefgh", names=[]), "abcdefgh")

    def test_the_first_letter_behind_it(self):
        self.assertEqual(free_name(["a"], "a"), "aa")
        self.assertEqual(free_name(("a", "aa"), "a"), "ab")
        self.assertEqual(free_name(["ab", "a", "ac"], "a"), "aa")
        self.assertEqual(free_name(["a"] + ["a" + each for each in string.ascii_lowercase[:25]], "a"), "az")
        self.assertEqual(free_name(["abcdefg"], "abcdefg"), "abcdefga")

    def test_cut_to_leave_room(self):
        self.assertEqual(free_name(["abcdefgh"], "abcdefgh"), "abcdefga")
        self.assertEqual(free_name(["abcdefga"], "abcdefga"), "abcdefgb")
        self.assertEqual(free_name(["abcdefgh", "abcdefga"], "abcdefgh"), "abcdefgb")

    def test_endings_of_two_letters(self):
        taken = ["a"] + ["a" + each for each in string.ascii_lowercase]
        self.assertEqual(free_name(taken, "a"), "aaa")
        self.assertEqual(free_name(taken + ["aaa", "aab"], "a"), "aac")
        taken = ["abcdefg" + each for each in string.ascii_lowercase]
        self.assertEqual(free_name(taken, "abcdefgh"), "abcdefaa")
        self.assertEqual(free_name(taken + ["abcdefaa"], "abcdefgh"), "abcdefab")
        taken = ["abcdefg"] + ["abcdefg" + each for each in string.ascii_lowercase]
        self.assertEqual(free_name(taken, "abcdefg"), "abcdefaa")

    def test_endings_of_three_letters(self):
        letters = string.ascii_lowercase
        for name, room in (("b", "b"), ("abcdefgh", "abcde"), ("abcdef", "abcde"), ("abcde", "abcde")):
            taken = [name] + [name[:7] + each for each in letters]
            taken += [name[:6] + one + other for one in letters for other in letters]
            self.assertEqual(free_name(taken, name), room + "aaa")
            self.assertEqual(free_name(tuple(taken) + (room + "aaa",), name), room + "aab")

    def test_what_is_handed_in_stays(self):
        names = ["a", "aa"]
        free_name(names, "a")
        self.assertEqual(names, ["a", "aa"])


class Joined(Case):
    def joined(self, one, other):
        """Banks joined, and that both of them stay."""
        before = (one.twin(), other.twin())
        bank, names = joined_banks(one, other)
        self.assertEqual((one, other), before)
        self.assertIs(type(bank), Bank)
        self.assertIs(type(names), dict)
        self.assertEqual(list(names), other.names())
        return bank, names

    def test_none_are_twins(self):
        one = Bank([unlike("b", toil=3), unlike("d")])
        other = Bank([unlike("c", kin="k", marks=4), unlike("a")])
        other.taken_out("c", "why not")
        other.used_on("c", 9)
        other.used_on("c", 2)
        one.used_on("b", 5)
        one.taken_out("d", "bad")
        bank, names = self.joined(one, other)
        self.assertEqual(names, {"a": "a", "c": "c"})
        told = Bank([unlike("b", toil=3), unlike("d"), unlike("c", kin="k", marks=4), unlike("a")])
        told.taken_out("c", "why not")
        told.taken_out("d", "bad")
        told.used_on("b", 5)
        told.used_on("c", 2)
        told.used_on("c", 9)
        self.assertEqual(bank, told)
        self.assertEqual(bank.days_of("c"), [2, 9])

    def test_of_empty_ones(self):
        one = Bank([unlike("b")])
        self.assertEqual(self.joined(Bank(), Bank()), (Bank(), {}))
        self.assertEqual(self.joined(one, Bank()), (one, {}))
        self.assertEqual(self.joined(Bank(), one), (one, {"b": "b"}))
        self.assertEqual(joined_banks(other=one, bank=Bank()), (one, {"b": "b"}))

    def test_a_twin_goes_into_the_first_by_names(self):
        one = Bank([unlike("d", "x", toil=4), unlike("b", "x", toil=3), unlike("c", "x")])
        other = Bank([unlike("a", "x", toil=9, marks=9, kin="k")])
        other.used_on("a", 7)
        one.used_on("b", 9)
        one.used_on("b", 7)
        one.used_on("c", 1)
        other.used_on("a", 3)
        bank, names = self.joined(one, other)
        self.assertEqual(names, {"a": "b"})
        told = one.twin()
        told.used_on("b", 3)
        self.assertEqual(bank, told)
        self.assertEqual(bank.days_of("b"), [3, 7, 9])

    def test_out_and_in_on_either_side(self):
        for here, there, told in ((None, None, None), ("mine", None, "mine"), (None, "yours", "yours"), ("mine", "yours", "mine")):
            one, other = Bank([unlike("a", "x")]), Bank([unlike("b", "x")])
            if here:
                one.taken_out("a", here)
            if there:
                other.taken_out("b", there)
            bank, names = self.joined(one, other)
            self.assertEqual(names, {"b": "a"})
            self.assertEqual(dict(bank.outs()).get("a"), told)

    def test_several_twins_go_into_one_by_rising_names(self):
        one = Bank([unlike("m", "x")])
        other = Bank([unlike("c", "x"), unlike("b", "x"), unlike("a", "x")])
        other.taken_out("c", "third")
        other.taken_out("b", "second")
        for day, name in ((1, "c"), (2, "b"), (3, "a")):
            other.used_on(name, day)
        bank, names = self.joined(one, other)
        self.assertEqual(names, {"a": "m", "b": "m", "c": "m"})
        self.assertEqual(bank.outs(), [("m", "second")])
        self.assertEqual(bank.days_of("m"), [1, 2, 3])
        self.assertEqual(bank.names(), ["m"])

    def test_twins_within_the_second_bank_are_both_added(self):
        other = Bank([unlike("b", "x"), unlike("a", "x")])
        bank, names = self.joined(Bank([unlike("a", "y")]), other)
        self.assertEqual(names, {"a": "aa", "b": "b"})
        self.assertEqual(bank.names(), ["a", "aa", "b"])
        self.assertIs(are_twins(bank.question("aa"), bank.question("b")), True)

    def test_names_taken(self):
        one = Bank([unlike("a", "x"), unlike("aa", "y"), unlike("abcdefgh", "z")])
        other = Bank([unlike("a", "p"), unlike("ab", "q"), unlike("abcdefgh", "r"), unlike("c", "x")])
        other.taken_out("a", "bad")
        other.used_on("abcdefgh", 4)
        bank, names = self.joined(one, other)
        # The name ab is taken by then: it was given to the first question.
        self.assertEqual(names, {"a": "ab", "ab": "aba", "abcdefgh": "abcdefga", "c": "a"})
        self.assertEqual(bank.outs(), [("ab", "bad")])
        self.assertEqual(bank.days_of("abcdefga"), [4])
        self.assertEqual(bank.question("ab"), unlike("ab", "p"))
        self.assertEqual(bank.question("aba"), unlike("aba", "q"))
        self.assertEqual(bank.question("abcdefga"), unlike("abcdefga", "r"))
        self.assertEqual(bank.question("abcdefgh"), unlike("abcdefgh", "z"))

    def test_all_but_the_name_is_kept(self):
        question = Question("a", "past", ("p", "q", "r"), 2, 9, 8, "k")
        bank, names = self.joined(Bank([unlike("a", "x")]), Bank([question]))
        self.assertEqual(bank.question("aa"), Question("aa", "past", ("p", "q", "r"), 2, 9, 8, "k"))

    def test_with_itself(self):
        one = Bank([unlike("b", "x"), unlike("a", "x"), unlike("c")])
        one.used_on("b", 3)
        bank, names = self.joined(one, one)
        self.assertEqual(names, {"a": "a", "b": "a", "c": "c"})
        self.assertEqual(bank.days_of("a"), [3])
        self.assertEqual(bank.names(), ["a", "b", "c"])

    def test_the_joined_bank_goes_on_by_itself(self):
        one, other = Bank([unlike("a")]), Bank([unlike("b")])
        other.used_on("b", 3)
        before = (one.twin(), other.twin())
        bank, names = joined_banks(one, other)
        bank.used_on("a", 4)
        bank.used_on("b", 4)
        bank.taken_out("b")
        bank.dropped("a")
        names.clear()
        self.assertEqual((one, other), before)
        bank, names = joined_banks(one, other)
        one.used_on("a", 8)
        other.used_on("b", 8)
        self.assertEqual((bank.days_of("a"), bank.days_of("b")), ([], [3]))

    def test_sixty_and_sixty_one(self):
        names = some_names(61)
        one = Bank([unlike(name) for name in names[:30]])
        bank, told = self.joined(one, Bank([unlike(name) for name in names[30:60]]))
        self.assertEqual(bank.names(), names[:60])
        more = Bank([unlike(name) for name in names[30:]])
        before = (one.twin(), more.twin())
        self.refused(TooMany, 60, joined_banks, one, more)
        self.assertEqual((one, more), before)
        with_twins = Bank([unlike(name) for name in names[29:60]])
        self.assertEqual(len(self.joined(one, with_twins)[0].names()), 60)
        sixty = Bank([unlike(name) for name in names[:60]])
        self.assertEqual(self.joined(sixty, sixty)[0], sixty)
        self.refused(TooMany, 60, joined_banks, sixty, Bank([unlike("x")]))
        sixty.taken_out("aa")
        self.refused(TooMany, 60, joined_banks, sixty, Bank([unlike("x")]))

    def joined_plainly(self, one, other):
        """What comes out, by the words of the document."""
        told = {name: list(each) for name, each in seen(one).items()}
        names = {}
        for name in other.names():
            question = other.question(name)
            twins = [each for each in one.names() if are_twins(one.question(each), question)]
            now = twins[0] if twins else name
            if not twins:
                endings = [""] + [
                    "".join(each) for many in (1, 2) for each in itertools.product(string.ascii_lowercase, repeat=many)
                ]
                now = next(each for each in (name[:8 - len(end)] + end for end in endings) if each not in told)
                text = str(question)[len(name):]
                told[now] = [now + text, question.answers, question.right, [], None]
            told[now][3] = sorted(set(told[now][3]) | set(other.days_of(name)))
            told[now][4] = told[now][4] or dict(other.outs()).get(name)
            names[name] = now
        return {name: tuple(each) for name, each in told.items()}, names

    def test_against_the_plainest(self):
        numbers = chance(70)

        def some():
            bank = Bank()
            for name in numbers.sample(["a", "aa", "ab", "abcdefgh", "abcdefga", "abcdefg", "b", "c"], numbers.randint(0, 8)):
                answers = tuple(numbers.sample(("x", "y", "z"), 2))
                bank.added(Question(name, numbers.choice(("m", "n")), answers, numbers.randint(0, 1)))
                for _ in range(numbers.randint(0, 2)):
                    bank.used_on(name, numbers.randint(0, 5))
                if numbers.randint(0, 2) == 0:
                    bank.taken_out(name, numbers.choice(("bad", "worse")))
            return bank
        for _ in range(200):
            one, other = some(), some()
            bank, names = self.joined(one, other)
            self.assertEqual((seen(bank), names), self.joined_plainly(one, other))


class InTime(unittest.TestCase):
    def test_sixty(self):
        one = Bank([unlike(name, "x" + name) for name in some_names(30)])
        other = Bank([unlike(name, "y" + name) for name in some_names(30)])
        start = time.perf_counter()
        for _ in range(20):
            bank, names = joined_banks(one, other)
            self.assertEqual(len(bank), 60)
            self.assertEqual(len(twins_of(bank, bank)), 60)
        self.assertLess(time.perf_counter() - start, 3)


if __name__ == "__main__":
    unittest.main()
