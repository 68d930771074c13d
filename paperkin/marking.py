"""Marks: what the answers on sheets give and take."""

from paperkin.copies import need_copy
from paperkin.errors import BadKind, NoSuch
from paperkin.sheets import led_back

WAYS = ("plain", "less", "whole")


def need_way(way):
    """Refuse what is no way by which marks are given."""
    # The kind is asked for first: what is no text may call itself equal to one.
    if not isinstance(way, str) or way not in WAYS:
        raise NoSuch(way)


def found_right(question, answer):
    """Whether an answer is right; of none None."""
    return None if answer is None else answer == question.right


def plain_gains(questions, found):
    """What each question gives if it is answered rightly."""
    return [question.marks if right is True else 0 for question, right in zip(questions, found)]


def less_gain(question, right):
    """What one question gives if it is answered rightly, or takes if wrongly."""
    if right is None:
        return 0
    return question.marks if right else -(question.marks // 2)


def less_gains(questions, found):
    """What each question gives if it is answered rightly, or takes if wrongly."""
    return [less_gain(question, right) for question, right in zip(questions, found)]


def whole_gains(questions, found):
    """What each question gives if all of its matter are answered rightly."""
    missed = {question.matter: True for question, right in zip(questions, found) if right is not True}
    return [0 if question.matter in missed else question.marks for question in questions]


def gains_by(questions, found, way):
    """What each question gives or takes; found tells of each one whether it is answered rightly, None of no answer."""
    if way == "less":
        return less_gains(questions, found)
    if way == "whole":
        return whole_gains(questions, found)
    return plain_gains(questions, found)


def together(gains):
    """All marks that are given and taken together: 0 at least."""
    return max(0, sum(gains))


def marks_list(copy, sheet, way="plain"):
    """Pairs of a name and what its question gives or takes, in the paper's order."""
    answers = led_back(copy, sheet)
    need_way(way)
    found = [found_right(question, answer) for question, answer in zip(copy.plain, answers)]
    return list(zip(copy.plain_names(), gains_by(copy.plain, found, way)))


def marks_of(copy, sheet, way="plain"):
    """The MARKS of a SHEET by a way."""
    return together([gain for name, gain in marks_list(copy, sheet, way)])


def most_marks(copy):
    """The most MARKS that a SHEET can have."""
    need_copy(copy)
    return sum([question.marks for question in copy.plain])


def mark_order(result):
    """By what pairs of a name and marks are put in order: most marks first, of as many by names."""
    return (-result[1], result[0])


def need_dict(thing):
    """Refuse what is no dict."""
    if not isinstance(thing, dict):
        raise BadKind("dict")


def ranked(copies, sheets, way="plain"):
    """Pairs of a person and the MARKS of the person's SHEET, most marks first."""
    need_dict(copies)
    need_dict(sheets)
    for name in sorted(list(copies) + list(sheets)):
        if name not in copies or name not in sheets:
            raise NoSuch(name)
    marks = [(name, marks_of(copies[name], sheets[name], way)) for name in sorted(list(copies))]
    return sorted(marks, key=mark_order)
