"""Sittings: copies handed to persons, the sheets they give, and questions found wrong."""

from paperkin.banks import Bank
from paperkin.copies import Copy
from paperkin.errors import BadKind, BadWish, Gone, NoPlace, NoSuch, Twice
from paperkin.marking import gains_by, mark_order, need_way, together
from paperkin.papers import need_ready
from paperkin.sheets import led_back, need_sheet
from paperkin.words import is_whole, need_day, need_name

MOST_COPIES = 100


def is_verdict(thing, question):
    """Whether a thing is a VERDICT of a question."""
    # The kinds are asked for first: what is no text may call itself equal to one.
    if not isinstance(thing, tuple) or len(thing) == 0 or not isinstance(thing[0], str):
        return False
    if thing[0] in ("out", "all"):
        return len(thing) == 1
    return thing[0] == "right" and len(thing) == 2 and is_whole(thing[1], 0, len(question) - 1)


def right_under(question, verdict):
    """The right answer of a question by the VERDICT that holds, None where none does; None where all are right."""
    if verdict is None:
        return question.right
    return None if verdict == ("all",) else verdict[1]


def found_by(answers, keys):
    """Whether the answers at some places are right; None of no answer."""
    # Where all are right, it is right to give none, too.
    return [
        True if right is None else (None if answers[at] is None else answers[at] == right) for at, right in keys
    ]


class Sitting:
    """A paper as it was when the sitting was made, and what was done since then."""

    def __init__(self, bank, paper, day=0, way="plain"):
        need_ready(bank, paper)
        need_day(day)
        need_way(way)
        self.day = day
        self.way = way
        self.start = Copy(bank, paper)
        self.copies = {}
        self.sheets = {}
        # The same sheets led back, so that marks can be told anew without leading them each time.
        self.backs = {}
        self.judged = {}
        # Of each deed its word, its name, and what stood there ahead of it.
        self.done = []
        for name in paper:
            bank.used_on(name, day)

    def __eq__(self, other):
        return (
            isinstance(other, Sitting)
            and self.start.plain == other.start.plain
            and self.day == other.day
            and self.way == other.way
            and self.copies == other.copies
            and self.sheets == other.sheets
            and self.judged == other.judged
        )

    def __len__(self):
        return len(self.sheets)

    def __str__(self):
        return ", ".join([f"{name} {marks}" for name, marks in self.results()])

    def __repr__(self):
        return f"Sitting({self.day})"

    def need_copy_of(self, person):
        """Refuse who has no copy."""
        if not isinstance(person, str) or person not in self.copies:
            raise NoSuch(person)

    def handed(self, person):
        """Hand a copy to a person."""
        need_name(person)
        if person in self.copies:
            raise Twice(person)
        self.copies[person] = self.start.gone_on(len(self.copies) % MOST_COPIES)
        self.done.append(("handed", person, None))
        return self.copies[person]

    def lay_sheet(self, person, sheet):
        """Let a sheet stand for a person."""
        self.sheets[person] = tuple(sheet)
        self.backs[person] = led_back(self.copies[person], sheet)

    def given(self, person, sheet):
        """Note the sheet that a person gives."""
        self.need_copy_of(person)
        if person in self.sheets:
            raise Twice(person)
        need_sheet(self.copies[person], sheet)
        self.lay_sheet(person, sheet)
        self.done.append(("given", person, None))
        return self.marks_by(person)

    def mended(self, person, sheet):
        """Put another sheet in the place of the one that a person gave."""
        if not isinstance(person, str) or person not in self.sheets:
            raise NoSuch(person)
        need_sheet(self.copies[person], sheet)
        elder = self.marks_by(person)
        self.done.append(("mended", person, self.sheets[person]))
        self.lay_sheet(person, sheet)
        return elder, self.marks_by(person)

    def marks_of_some(self, persons, judged):
        """The marks of some who gave sheets, as they were if these VERDICTS held."""
        # What is out is as if the paper hadn't it: it is left out ahead of all else.
        places = [at for at, question in enumerate(self.start.plain) if judged.get(question.name) != ("out",)]
        questions = [self.start.plain[at] for at in places]
        rights = [right_under(question, judged.get(question.name)) for question in questions]
        keys = list(zip(places, rights))
        told = {}
        for person in persons:
            told[person] = together(gains_by(questions, found_by(self.backs[person], keys), self.way))
        return told

    def marks_under(self, judged):
        """The marks of all who gave sheets, by rising names, as they were if these VERDICTS held."""
        return self.marks_of_some(sorted(list(self.backs)), judged)

    def if_wrong(self, name, verdict):
        """The marks that a VERDICT of a question would move."""
        question = self.start.plain[self.start.place_of(name)]
        if not is_verdict(verdict, question):
            raise BadWish("verdict")
        elder = self.marks_under(self.judged)
        newer = self.marks_under({**self.judged, name: verdict})
        return [(person, elder[person], newer[person]) for person in elder if elder[person] != newer[person]]

    def found_wrong(self, name, verdict):
        """Find a question wrong, and tell the marks moved by it."""
        told = self.if_wrong(name, verdict)
        self.done.append(("wrong", name, self.judged.get(name)))
        self.judged[name] = verdict
        return told

    def undone(self):
        """Undo the last deed that stands, and tell its word and name."""
        if len(self.done) == 0:
            raise Gone("no deed stands")
        word, name, ahead = self.done.pop()
        if word == "handed":
            del self.copies[name]
        elif word == "given":
            del self.sheets[name]
            del self.backs[name]
        elif word == "mended":
            self.lay_sheet(name, ahead)
        elif ahead is None:
            del self.judged[name]
        else:
            self.judged[name] = ahead
        return word, name

    def copy_of(self, person):
        """The copy of a person."""
        self.need_copy_of(person)
        return self.copies[person]

    def sheet_by(self, person):
        """The sheet of a person, or None where none was given."""
        self.need_copy_of(person)
        return self.sheets.get(person)

    def marks_by(self, person):
        """The marks of a person, or None where no sheet was given."""
        self.need_copy_of(person)
        if person not in self.sheets:
            return None
        return self.marks_of_some([person], self.judged)[person]

    def persons(self):
        """All who have copies, rising."""
        return sorted(list(self.copies))

    def results(self, least=0):
        """Pairs of a person and marks of all who gave sheets and have so many marks, most marks first."""
        if not is_whole(least):
            raise NoPlace(least)
        marks = self.marks_under(self.judged)
        return sorted([(person, marks[person]) for person in marks if marks[person] >= least], key=mark_order)

    def verdicts(self):
        """The VERDICTS that hold, by rising names of their questions."""
        return {name: self.judged[name] for name in sorted(list(self.judged))}

    def has_asked(self, name):
        """Whether the paper has a question of a name."""
        # The kind is asked for first: what is no text may call itself equal to a name.
        return isinstance(name, str) and name in self.start.plain_names()

    def asked(self, name):
        """How many sheets ask a question of the paper that neither is out nor counts for all, and how many rightly."""
        verdict = self.judged.get(name)
        if verdict in (("out",), ("all",)):
            return 0, 0
        at = self.start.place_of(name)
        right = right_under(self.start.plain[at], verdict)
        found = [self.backs[person][at] == right for person in self.backs]
        return len(found), found.count(True)

    def twin(self):
        """A sitting that is equal, with the same deeds to be undone, and goes on by itself."""
        # A bank of its own: the one that the sitting was made of notes no day anew.
        other = Sitting(Bank(self.start.plain), tuple(self.start.plain_names()), self.day, self.way)
        other.copies = dict(self.copies)
        other.sheets = dict(self.sheets)
        other.backs = dict(self.backs)
        other.judged = dict(self.judged)
        other.done = list(self.done)
        return other


def need_sitting(thing):
    """Refuse what is no Sitting."""
    if not isinstance(thing, Sitting):
        raise BadKind("Sitting")
