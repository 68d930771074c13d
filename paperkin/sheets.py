"""Sheets: the answers given to a copy, led back to the paper's own order and on from it."""

from paperkin.copies import need_copy
from paperkin.errors import BadSheet
from paperkin.words import LETTERS, is_whole, need_any_text, words_in

NOTHING = "-"


def answer_counts(copy):
    """How many answers there are at each place of a copy."""
    first = copy.number % len(copy.plain)
    counts = plain_counts(copy)
    return counts[first:] + counts[:first]


def plain_counts(copy):
    """How many answers there are at each place of a paper."""
    return [len(question.answers) for question in copy.plain]


def need_answers(sheet, counts):
    """Refuse what has no answer, or None, for each of so many answers."""
    if not isinstance(sheet, tuple) or len(sheet) != len(counts):
        raise BadSheet(None)
    for place, answer in enumerate(sheet):
        if answer is not None and not is_whole(answer, 0, counts[place] - 1):
            raise BadSheet(place)


def need_sheet(copy, sheet):
    """Refuse what is no SHEET of a copy."""
    need_copy(copy)
    need_answers(sheet, answer_counts(copy))


def led_back(copy, sheet):
    """The SHEET of number 0 that gives each question the same answer's text."""
    need_sheet(copy, sheet)
    counts = plain_counts(copy)
    led = [None] * len(counts)
    for answer, (at, turn) in zip(sheet, copy.origins()):
        if answer is not None:
            led[at] = (answer + turn) % counts[at]
    return tuple(led)


def led_on(copy, sheet):
    """The SHEET of a copy that gives each question the same answer's text as one of number 0."""
    need_copy(copy)
    counts = plain_counts(copy)
    need_answers(sheet, counts)
    return tuple([turned_on(sheet[at], turn, counts[at]) for at, turn in copy.origins()])


def turned_on(answer, turn, many):
    """The number of one of so many answers where they are turned, or None as it is."""
    return None if answer is None else (answer - turn) % many


def key_sheet(copy):
    """The SHEET with all right answers."""
    need_copy(copy)
    return led_on(copy, tuple([question.right for question in copy.plain]))


def changed_at(copy, sheet, other):
    """The rising names of the questions that two SHEETS of a copy answer otherwise."""
    need_sheet(copy, sheet)
    need_sheet(copy, other)
    return sorted([name for name, here, there in zip(copy.told_names(), sheet, other) if here != there])


def sheet_text(copy, sheet):
    """A SHEET as letters, blanks between."""
    need_sheet(copy, sheet)
    return " ".join([NOTHING if answer is None else LETTERS[answer] for answer in sheet])


def answer_of(word, many):
    """The number of one of so many answers that a word is the letter of, None of the sign for none, else -1."""
    if word == NOTHING:
        return None
    if len(word) != 1:
        return -1
    return LETTERS[:many].find(word)


def sheet_of(copy, text):
    """The SHEET that is written as a text."""
    need_copy(copy)
    need_any_text(text)
    words = words_in(text)
    counts = answer_counts(copy)
    if len(words) != len(counts):
        raise BadSheet(None)
    sheet = tuple([answer_of(word, many) for word, many in zip(words, counts)])
    need_answers(sheet, counts)
    return sheet
