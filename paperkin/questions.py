"""Questions, which nothing changes, and lists of them."""

from paperkin.errors import BadKind, BadQuestion
from paperkin.words import is_name, is_name_or_empty, is_number, is_text, is_whole

LEAST_ANSWERS = 2
MOST_ANSWERS = 6


def are_answers(thing):
    """Whether a thing is a tuple of two to six unlike TEXTS."""
    if not isinstance(thing, tuple) or not LEAST_ANSWERS <= len(thing) <= MOST_ANSWERS:
        return False
    # Only texts are counted as members: other things may not be fit for a set.
    return all([is_text(each) for each in thing]) and len(set(thing)) == len(thing)


class Question:
    """A question with its answers, one of which is right."""

    def __init__(self, name, matter, answers, right=0, toil=5, marks=1, kin=""):
        if not is_name(name):
            raise BadQuestion("name")
        if not is_name(matter):
            raise BadQuestion("matter")
        if not are_answers(answers):
            raise BadQuestion("answers")
        if not is_whole(right, 0, len(answers) - 1):
            raise BadQuestion("right")
        if not is_whole(toil, 1, 9):
            raise BadQuestion("toil")
        if not is_whole(marks, 1, 9):
            raise BadQuestion("marks")
        if not is_name_or_empty(kin):
            raise BadQuestion("kin")
        self.name = name
        self.matter = matter
        self.answers = tuple(answers)
        self.right = right
        self.toil = toil
        self.marks = marks
        self.kin = kin

    def __eq__(self, other):
        return (
            isinstance(other, Question)
            and self.name == other.name
            and self.matter == other.matter
            and self.answers == other.answers
            and self.right == other.right
            and self.toil == other.toil
            and self.marks == other.marks
            and self.kin == other.kin
        )

    def __len__(self):
        return len(self.answers)

    def __str__(self):
        if self.kin == "":
            return f"{self.name}: {self.matter}, {self.toil}, {self.marks}"
        return f"{self.name}: {self.matter}, {self.toil}, {self.marks}, of kin {self.kin}"

    def __repr__(self):
        return f"Question({self.name})"

    def answer(self):
        """The right answer."""
        return self.answers[self.right]

    def turned(self, by):
        """A question whose answers begin with that of number by and go round."""
        if not is_number(by):
            raise BadKind("number")
        many = len(self.answers)
        first = by % many
        answers = self.answers[first:] + self.answers[:first]
        right = (self.right - first) % many
        return Question(self.name, self.matter, answers, right, self.toil, self.marks, self.kin)

    def changed(self, right=None, toil=None, marks=None, kin=None):
        """A question that is alike but for what isn't None."""
        return Question(
            self.name,
            self.matter,
            self.answers,
            self.right if right is None else right,
            self.toil if toil is None else toil,
            self.marks if marks is None else marks,
            self.kin if kin is None else kin,
        )

    def is_kin(self, other):
        """Whether both have one kin or one name."""
        need_question(other)
        if self.name == other.name:
            return True
        return self.kin != "" and self.kin == other.kin


def need_question(thing):
    """Refuse what is no Question."""
    if not isinstance(thing, Question):
        raise BadKind("Question")


def need_questions(things):
    """Refuse what is no list or tuple of Questions."""
    if not isinstance(things, (list, tuple)):
        raise BadKind("list")
    for thing in things:
        need_question(thing)


def toil_order(question):
    """By what questions are put in order of their toil."""
    return (question.toil, question.matter, question.name)


def by_toil(questions):
    """Questions in a new list by toil, then matter, then name."""
    need_questions(questions)
    return sorted(questions, key=toil_order)


def toil_sum(questions, start=0):
    """The toils of questions together, and start."""
    need_questions(questions)
    return start + sum([question.toil for question in questions])
