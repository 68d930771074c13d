"""Banks joined: questions that are twins go into one another, the others are added."""

from paperkin.banks import need_bank
from paperkin.questions import Question, need_question
from paperkin.words import LETTERS, MOST_LETTERS


def twin_mark(question):
    """What all twins of a question have in common: its matter, its answers in one order, the right one."""
    return question.matter, tuple(sorted(question.answers)), question.answer()


def are_twins(one, other):
    """Whether two questions are TWINS."""
    need_question(one)
    need_question(other)
    return twin_mark(one) == twin_mark(other)


def twin_marks(bank):
    """The twin mark of each question of a bank, by rising names."""
    return {name: twin_mark(bank.question(name)) for name in bank.names()}


def twins_of(bank, other):
    """The rising pairs of names of TWINS, the first name in the one bank, the second in the other one."""
    need_bank(bank)
    need_bank(other)
    marks = twin_marks(bank)
    others = twin_marks(other)
    return [(one, another) for one in marks for another in others if marks[one] == others[another]]


def endings(many):
    """All texts of so many letters, in order."""
    told = [""]
    for place in range(many):
        told = [text + letter for text in told for letter in LETTERS]
    return told


def free_name(names, name):
    """The name by which a question is added where some names are taken."""
    if name not in names:
        return name
    taken = {each: True for each in names}
    many = 1
    while True:
        room = name[:MOST_LETTERS - many]
        for ending in endings(many):
            if room + ending not in taken:
                return room + ending
        many += 1


def renamed(question, name):
    """A question that is alike but for its name."""
    return Question(
        name, question.matter, question.answers, question.right, question.toil, question.marks, question.kin
    )


def first_twins(bank):
    """The first name of a bank's own questions by each twin mark."""
    firsts = {}
    marks = twin_marks(bank)
    for name in marks:
        firsts.setdefault(marks[name], name)
    return firsts


def hand_over(joined, name, other, elder):
    """Let a question have the days of the other bank's, and be out if it is in and that one is out."""
    joined.used_on_all(name, other.days_of(elder))
    if joined.is_in(name) and not other.is_in(elder):
        joined.taken_out(name, dict(other.outs())[elder])


def joined_banks(bank, other):
    """A bank with the questions of both, and the names that those of the other one have now."""
    need_bank(bank)
    need_bank(other)
    # Twins go into the first bank's own questions only, not into what is added to them.
    firsts = first_twins(bank)
    joined = bank.twin()
    names = {}
    for elder in other.names():
        question = other.question(elder)
        mark = twin_mark(question)
        if mark in firsts:
            name = firsts[mark]
        else:
            name = free_name(joined.names(), elder)
            joined.added(renamed(question, name))
        hand_over(joined, name, other, elder)
        names[elder] = name
    return joined, names
