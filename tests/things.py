"""What several tests hand in: questions, and things of every kind."""

import random
import unittest

from paperkin.banks import Bank
from paperkin.errors import BadKind, BadPaper, BadSheet, BadWish, BankError, NoPlace, NoSuch, TooMany, Twice
from paperkin.questions import Question
from paperkin.wishes import Wish, wish_of

ANSWERS = ("one", "two", "three")


def a_question(name="adds", matter="sums", toil=5, marks=1, kin="", right=0, answers=ANSWERS):
    return Question(name, matter, answers, right, toil, marks, kin)


def some_names(many):
    """So many rising names."""
    letters = "abcdefghijklmnopqrstuvwxyz"
    return [one + other for one in letters for other in letters][:many]


class Stranger:
    """A thing of a kind that the program doesn't know."""


def a_function():
    return 1


def no_whole_numbers():
    """Things of any kind, none of which is a whole number."""
    return [
        None, True, False, "", "1", "0", "ab", " ", "a" * 5000, "9" * 5000, b"", b"1", [], [1], (), (1,), {}, {1: 2},
        set(), {1}, frozenset(), Stranger(), Stranger, int, a_function, lambda: 1, a_question(), BankError("x"),
        range(3), [[[]]], ((1,), [2]),
    ]


def no_texts():
    """Things of any kind, none of which is a text."""
    return [
        None, True, False, 0, 1, -1, 9999, 10 ** 3999, b"", b"ab", [], ["ab"], (), ("ab",), {}, {"ab": 1}, set(),
        {"ab"}, frozenset(), Stranger(), Stranger, str, a_function, lambda: "ab", a_question(), BankError("ab"),
        [[[]]], ("a", "b"),
    ]


def strangers():
    """Things that are no Question, Bank, Wish, list or tuple."""
    return [
        None, True, False, 0, 1, -1, 10 ** 3999, "", "adds", "many 0 1", b"", b"adds", {}, {"adds": 1}, set(),
        {"adds"}, frozenset(), Stranger(), Stranger, Question, a_function, lambda: 1, BankError("x"),
    ]


def deep(many):
    """A list within a list, so many of them."""
    inner = []
    for _ in range(many - 1):
        inner = [inner]
    return inner


FIELDS = {
    BadKind: "wanted", BadPaper: "at", BadSheet: "at", BadWish: "at", NoPlace: "at", NoSuch: "name", TooMany: "most",
    Twice: "name",
}


class Alike:
    """A thing that calls itself equal to everything."""

    def __eq__(self, other):
        return True

    def __hash__(self):
        return 1


class Case(unittest.TestCase):
    def refused(self, error, value, deed, *told, **named):
        """A deed is refused by just that error with just that value."""
        with self.assertRaises(error, msg=repr((value, told, named))[:300]) as caught:
            deed(*told, **named)
        self.assertIs(type(caught.exception), error)
        found = getattr(caught.exception, FIELDS[error])
        self.assertIs(type(found), type(value), repr((told, named))[:300])
        if found is not value:
            self.assertEqual(found, value, repr((told, named))[:300])


def wishes_of(*texts):
    return [wish_of(text) for text in texts]


def plain_bank(names, **more):
    """A bank of questions by these names, alike in all else."""
    return Bank([a_question(name, **more) for name in names])


def chance(seed):
    """The same numbers in each run."""
    return random.Random(seed)


def some_bank(numbers, most):
    """A bank with up to so many questions IN, some more OUT, some used."""
    bank = Bank()
    for name in some_names(numbers.randint(0, most)):
        matter = numbers.choice(("sums", "past", "earth"))
        kin = numbers.choice(("", "", "k", "l"))
        bank.added(a_question(name, matter, numbers.randint(1, 9), numbers.randint(1, 9), kin))
        if numbers.randint(0, 2) == 0:
            bank.used_on(name, numbers.randint(0, 20))
        if numbers.randint(0, 9) == 0:
            bank.taken_out(name)
    return bank


def some_wish(numbers):
    word = numbers.choice(("many", "toil", "marks", "rest", "kin", "with"))
    low = numbers.randint(0, 3)
    if word == "with":
        return Wish(word, numbers.choice(some_names(6)), numbers.randint(0, 1), 1)
    if word == "rest":
        return Wish(word, "", numbers.randint(0, 20), numbers.randint(0, 2))
    if word == "kin":
        return Wish(word, numbers.choice(("", "k", "l")), 0, numbers.randint(0, 2))
    if word == "many":
        return Wish(word, numbers.choice(("", "sums", "past")), low, low + numbers.randint(0, 2))
    low = numbers.randint(0, 12)
    return Wish(word, numbers.choice(("", "sums", "earth")), low, low + numbers.randint(0, 20))


def some_wishes(numbers, most):
    return [some_wish(numbers) for _ in range(numbers.randint(0, most))]
