"""Wishes that papers meet or don't."""

from paperkin.errors import BadKind, BadWish
from paperkin.words import is_name, is_name_or_empty, is_number, is_whole, need_any_text, number_by, words_in

WORDS = ("many", "toil", "marks", "rest", "kin", "with")
WORDS_OF_THE_WHOLE = ("many", "toil", "marks")
MOST = 999
MOST_FIGURES = 3
MOST_WISHES = 12


class Wish:
    """A word, what it is of, and the least and most that are wished for."""

    def __init__(self, word, what="", least=0, most=999):
        if not isinstance(word, str) or word not in WORDS:
            raise BadWish("word")
        if not can_be_of(word, what):
            raise BadWish("what")
        if not is_whole(least, 0, MOST):
            raise BadWish("least")
        # The least of rest is a number of days, to which its most, a number of questions, isn't bound.
        if not is_whole(most, 0 if word == "rest" else least, MOST):
            raise BadWish("most")
        self.word = word
        self.what = what
        self.least = least
        self.most = most

    def __eq__(self, other):
        return (
            isinstance(other, Wish)
            and self.word == other.word
            and self.what == other.what
            and self.least == other.least
            and self.most == other.most
        )

    def __len__(self):
        if self.what == "" and self.word in WORDS_OF_THE_WHOLE:
            return 2
        return 1

    def __str__(self):
        if self.what == "":
            return f"{self.word} {self.least} {self.most}"
        return f"{self.word} {self.what} {self.least} {self.most}"

    def __repr__(self):
        return f"Wish({self!s})"

    def moved(self, by):
        """A wish whose least and most are more by a number, cut to their bounds."""
        if not is_number(by):
            raise BadKind("number")
        return Wish(self.word, self.what, cut(self.least + by), cut(self.most + by))


def can_be_of(word, what):
    """Whether a wish of that word can be of that what."""
    if word == "with":
        return is_name(what)
    if word == "rest":
        return isinstance(what, str) and what == ""
    return is_name_or_empty(what)


def cut(number):
    """A number, or the bound beyond which it is."""
    return max(0, min(MOST, number))


def need_wish(thing):
    """Refuse what is no Wish."""
    if not isinstance(thing, Wish):
        raise BadKind("Wish")


def need_wishes(thing):
    """Refuse what are no WISHES."""
    if not isinstance(thing, (list, tuple)):
        raise BadKind("list")
    for number, each in enumerate(thing):
        if number >= MOST_WISHES or not isinstance(each, Wish):
            raise BadWish(number)


def are_numbers(thing, many):
    """Whether a thing is a rising tuple of numbers of so many wishes."""
    if not isinstance(thing, tuple) or not all([is_whole(each, 0, many - 1) for each in thing]):
        return False
    return all([one < other for one, other in zip(thing, thing[1:])])


def wish_of(text):
    """The wish that is written as a text."""
    need_any_text(text)
    words = words_in(text)
    if len(words) == 3:
        words = [words[0], "", words[1], words[2]]
    if len(words) != 4:
        raise BadWish("word")
    # What is no number, or has more figures than one within the bounds, is None, by which a wish is refused.
    return Wish(words[0], words[1], number_by(words[2], MOST_FIGURES), number_by(words[3], MOST_FIGURES))
