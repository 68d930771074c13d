"""Banks, papers and wishes as texts, and read from them."""

from paperkin.banks import MOST_QUESTIONS, Bank, need_bank
from paperkin.errors import BadLine, BadWish
from paperkin.papers import MOST_NAMES, need_paper
from paperkin.questions import LEAST_ANSWERS, MOST_ANSWERS, Question
from paperkin.wishes import MOST_WISHES, need_wishes, wish_of
from paperkin.words import is_name, is_text, is_whole, need_any_text, number_by

NO_KIN = "-"
WRONG = "-"
RIGHT = "+"
DAY_FIGURES = 4
QUESTION_WORDS = 6


class Draft:
    """A question of which some rows are read."""

    def __init__(self, name, matter, toil, marks, kin):
        self.name = name
        self.matter = matter
        self.toil = toil
        self.marks = marks
        self.kin = kin
        self.answers = []
        self.right = None
        self.reason = None
        self.days = []

    def is_whole_one(self):
        """Whether all answers that must be there are read."""
        return len(self.answers) >= LEAST_ANSWERS and self.right is not None

    def has_ended(self):
        """Whether what comes behind the answers has begun."""
        return self.reason is not None or len(self.days) > 0

    def can_begin_with(self, first):
        """Whether a row that begins with that word can come next."""
        if first in (WRONG, RIGHT):
            if self.has_ended() or len(self.answers) >= MOST_ANSWERS:
                return False
            return first == WRONG or self.right is None
        if first == "out":
            return self.is_whole_one() and not self.has_ended()
        return first == "used" and self.is_whole_one() and len(self.days) == 0

    def read_row(self, row):
        """Take a row that can come next."""
        first, blank, rest = row.partition(" ")
        if first == "out":
            self.reason = rest
        elif first == "used":
            self.days = [int(word) for word in rest.split(" ")]
        else:
            if first == RIGHT:
                self.right = len(self.answers)
            self.answers.append(rest)

    def put_into(self, bank):
        """Add the question to a bank."""
        answers = tuple(self.answers)
        bank.added(Question(self.name, self.matter, answers, self.right, self.toil, self.marks, self.kin))
        bank.used_on_all(self.name, self.days)
        if self.reason is not None:
            bank.taken_out(self.name, self.reason)


def can_be_part(place, word, last):
    """Whether a word can stand at a place of a question's row, behind a question of the last name."""
    if place == 1:
        return is_name(word) and word > last
    if place == 2:
        return is_name(word)
    if place in (3, 4):
        return is_whole(number_by(word, 1), 1, 9)
    return word == NO_KIN or is_name(word)


def bad_in_question(words, last):
    """The number of the first word that can't stand in a question's row, from 1; 0 where all can."""
    for place in range(1, QUESTION_WORDS):
        if place >= len(words) or not can_be_part(place, words[place], last):
            return place + 1
    return QUESTION_WORDS + 1 if len(words) > QUESTION_WORDS else 0


def bad_in_days(words):
    """The number of the first word that can't stand in a row of days, from 1; 0 where all can."""
    last = -1
    for place in range(1, max(2, len(words))):
        day = number_by(words[place], DAY_FIGURES) if place < len(words) else None
        if day is None or day <= last:
            return place + 1
        last = day
    return 0


def bad_in_text(row, taken):
    """The number of the first word that can't stand in a row of a TEXT, from 1; 0 where all can."""
    # All behind the first blank is one word here.
    first, blank, rest = row.partition(" ")
    return 0 if is_text(rest) and rest not in taken else 2


def can_begin(first, drafts):
    """Whether a row that begins with that word can come behind the questions that are read."""
    if first == "question":
        return len(drafts) < MOST_QUESTIONS and (len(drafts) == 0 or drafts[-1].is_whole_one())
    return len(drafts) > 0 and drafts[-1].can_begin_with(first)


def bad_word(row, drafts):
    """The number of the first word of a row that can't stand there, from 1; 0 where all can."""
    words = row.split(" ")
    if not can_begin(words[0], drafts):
        return 1
    if words[0] == "question":
        return bad_in_question(words, drafts[-1].name if len(drafts) > 0 else "")
    if words[0] == "used":
        return bad_in_days(words)
    return bad_in_text(row, drafts[-1].answers if words[0] in (WRONG, RIGHT) else [])


def draft_of(row):
    """The beginning of a question by its row."""
    word, name, matter, toil, marks, kin = row.split(" ")
    return Draft(name, matter, int(toil), int(marks), "" if kin == NO_KIN else kin)


def rows_of(text):
    """The rows of a text; of one without signs none."""
    return [] if text == "" else text.split("\n")


def bank_of(text):
    """The bank that is written as a text."""
    need_any_text(text)
    rows = rows_of(text)
    drafts = []
    for number, row in enumerate(rows, start=1):
        word = bad_word(row, drafts)
        if word > 0:
            raise BadLine(number, word)
        if row.startswith("question "):
            drafts.append(draft_of(row))
        else:
            drafts[-1].read_row(row)
    if len(drafts) > 0 and not drafts[-1].is_whole_one():
        raise BadLine(len(rows) + 1, 1)
    bank = Bank()
    for draft in drafts:
        draft.put_into(bank)
    return bank


def answer_rows(question):
    """The rows of a question's answers."""
    signs = [RIGHT if number == question.right else WRONG for number in range(len(question))]
    return [f"{sign} {answer}" for sign, answer in zip(signs, question.answers)]


def question_rows(bank, name, reasons):
    """The rows of a question of a bank."""
    question = bank.question(name)
    kin = NO_KIN if question.kin == "" else question.kin
    rows = [f"question {name} {question.matter} {question.toil} {question.marks} {kin}"]
    rows.extend(answer_rows(question))
    if name in reasons:
        rows.append(f"out {reasons[name]}")
    days = bank.days_of(name)
    if len(days) > 0:
        rows.append(" ".join(["used"] + [str(day) for day in days]))
    return rows


def bank_text(bank):
    """A bank as a text."""
    need_bank(bank)
    reasons = dict(bank.outs())
    return "\n".join([row for name in bank.names() for row in question_rows(bank, name, reasons)])


def paper_text(paper):
    """A paper as a text."""
    need_paper(paper)
    return " ".join(paper)


def paper_of_text(text):
    """The paper that is written as a text."""
    need_any_text(text)
    names = text.split(" ")
    last = ""
    for number, name in enumerate(names, start=1):
        if number > MOST_NAMES or not is_name(name) or name <= last:
            raise BadLine(1, number)
        last = name
    return tuple(names)


def wishes_text(wishes):
    """Wishes as a text."""
    need_wishes(wishes)
    return "\n".join([str(wish) for wish in wishes])


def wish_in_row(row, number):
    """The wish that is written in the row of a number."""
    if number > MOST_WISHES:
        raise BadLine(number, 1)
    try:
        return wish_of(row)
    except BadWish:
        raise BadLine(number, 1) from None


def wishes_of_text(text):
    """The wishes that are written as a text."""
    need_any_text(text)
    return [wish_in_row(row, number) for number, row in enumerate(rows_of(text), start=1)]
