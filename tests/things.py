"""What several tests hand in: questions, and things of every kind."""

from paperkin.errors import BankError
from paperkin.questions import Question

ANSWERS = ("one", "two", "three")


def a_question(name="adds", matter="sums", toil=5, marks=1, kin="", right=0, answers=ANSWERS):
    return Question(name, matter, answers, right, toil, marks, kin)


def some_names(many):
    """So many rising names."""
    letters = "abcdefghijklmnopqrstuvwxyz"
    return [one + other for one in letters for other in letters][:many]


class Stranger:
    """A thing of a kind that the program doesn't know."""


def a_function():
    return 1


def no_whole_numbers():
    """Things of any kind, none of which is a whole number."""
    return [
        None, True, False, "", "1", "0", "ab", " ", "a" * 5000, "9" * 5000, b"", b"1", [], [1], (), (1,), {}, {1: 2},
        set(), {1}, frozenset(), Stranger(), Stranger, int, a_function, lambda: 1, a_question(), BankError("x"),
        range(3), [[[]]], ((1,), [2]),
    ]


def no_texts():
    """Things of any kind, none of which is a text."""
    return [
        None, True, False, 0, 1, -1, 9999, 10 ** 3999, b"", b"ab", [], ["ab"], (), ("ab",), {}, {"ab": 1}, set(),
        {"ab"}, frozenset(), Stranger(), Stranger, str, a_function, lambda: "ab", a_question(), BankError("ab"),
        [[[]]], ("a", "b"),
    ]


def strangers():
    """Things that are no Question, Bank, Wish, list or tuple."""
    return [
        None, True, False, 0, 1, -1, 10 ** 3999, "", "adds", "many 0 1", b"", b"adds", {}, {"adds": 1}, set(),
        {"adds"}, frozenset(), Stranger(), Stranger, Question, a_function, lambda: 1, BankError("x"),
    ]


def deep(many):
    """A list within a list, so many of them."""
    inner = []
    for _ in range(many - 1):
        inner = [inner]
    return inner
