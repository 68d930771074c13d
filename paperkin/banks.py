"""Banks of questions: which are in, which are out, and when they were used."""

from paperkin.errors import BadKind, BadText, Gone, NoPlace, NoSuch, TooMany, Twice
from paperkin.questions import need_question
from paperkin.words import is_text, is_whole, need_day

MOST_QUESTIONS = 60


def listed(questions):
    """What a bank is made of, as a list: of None none."""
    if questions is None:
        return []
    if not isinstance(questions, (list, tuple)):
        raise BadKind("list")
    return list(questions)


class Bank:
    """Questions by their names, each with its days, some of them out."""

    def __init__(self, questions=None):
        self.kept = {}
        self.reasons = {}
        self.days = {}
        for question in listed(questions):
            self.added(question)

    def __eq__(self, other):
        return (
            isinstance(other, Bank)
            and self.kept == other.kept
            and self.reasons == other.reasons
            and self.days == other.days
        )

    def __len__(self):
        return len([name for name in self.kept if name not in self.reasons])

    def need_known(self, name):
        """Refuse what is no name in the bank."""
        # Things of other kinds may not be fit to be asked for in a dict.
        if not isinstance(name, str) or name not in self.kept:
            raise NoSuch(name)

    def added(self, question):
        """Add a question, which is in."""
        need_question(question)
        if question.name in self.kept:
            raise Twice(question.name)
        if len(self.kept) >= MOST_QUESTIONS:
            raise TooMany(MOST_QUESTIONS)
        self.kept[question.name] = question
        self.days[question.name] = []

    def put(self, question):
        """Put a question in the place of the one of its name."""
        need_question(question)
        self.need_known(question.name)
        self.kept[question.name] = question

    def taken_out(self, name, why="wrong"):
        """Take a question out for a reason."""
        self.need_known(name)
        if not is_text(why):
            raise BadText("no reason")
        self.reasons[name] = why

    def put_back(self, name):
        """Let a question that is out be in."""
        self.need_known(name)
        if name not in self.reasons:
            raise Gone("the question is in")
        del self.reasons[name]

    def dropped(self, name):
        """Drop a question, and its days with it."""
        self.need_known(name)
        del self.kept[name]
        del self.days[name]
        if name in self.reasons:
            del self.reasons[name]

    def used_on(self, name, day):
        """Note that a question was used on a day."""
        self.need_known(name)
        need_day(day)
        if day not in self.days[name]:
            self.days[name] = sorted([*self.days[name], day])

    def used_on_all(self, name, days):
        """Note that a question of the bank was used on some DAYS."""
        self.days[name] = sorted(set(self.days[name] + list(days)))

    def unused_on(self, name, day):
        """Note no longer that a question was used on a day."""
        self.need_known(name)
        need_day(day)
        if day not in self.days[name]:
            raise Gone("the day isn't noted")
        self.days[name] = [each for each in self.days[name] if each != day]

    def names(self):
        """All names, rising."""
        return sorted(list(self.kept))

    def names_in(self):
        """The names of those that are in, rising."""
        return [name for name in self.names() if name not in self.reasons]

    def is_in(self, name):
        """Whether a name is that of a question that is in."""
        return name in self.kept and name not in self.reasons

    def was_used(self, name, first, last):
        """Whether a question was used on a day from the first to the last one."""
        for day in self.days[name]:
            if first <= day <= last:
                return True
        return False

    def outs(self):
        """Pairs of a name and a reason of those that are out, rising."""
        return [(name, self.reasons[name]) for name in sorted(list(self.reasons))]

    def question(self, name):
        """The question of a name."""
        self.need_known(name)
        return self.kept[name]

    def questions_by(self, names):
        """The questions of names that are known to be in the bank, in their order."""
        return [self.kept[name] for name in names]

    def days_of(self, name):
        """The days on which a question was used, rising."""
        self.need_known(name)
        return list(self.days[name])

    def last_day(self, name, day=9999):
        """The last day up to that one on which a question was used, or None."""
        self.need_known(name)
        need_day(day)
        noted = [each for each in self.days[name] if each <= day]
        return noted[-1] if len(noted) > 0 else None

    def matters(self):
        """How many of those that are in there are of each matter."""
        told = sorted([self.kept[name].matter for name in self.names_in()])
        return {matter: told.count(matter) for matter in told}

    def found(self, matter="", least=1, most=9, kin="", day=None, rest=0):
        """The names of those in that suit and don't rest, rising."""
        suiting = [name for name in self.names_in() if suits(self.kept[name], matter, least, most, kin)]
        if day is None:
            return suiting
        return [name for name in suiting if not rests_on(self, name, day, rest)]

    def twin(self):
        """A bank that is equal and goes on by itself."""
        other = Bank([self.kept[name] for name in self.names()])
        other.reasons = dict(self.reasons)
        other.days = {name: list(self.days[name]) for name in self.names()}
        return other


def suits(question, matter, least, most, kin):
    """Whether a question is of a matter and a kin, and its toil within bounds."""
    if not least <= question.toil <= most:
        return False
    return matter in ("", question.matter) and kin in ("", question.kin)


def rests_on(bank, name, day, rest):
    """Whether a question of the bank rests on a day."""
    return bank.was_used(name, day - rest + 1, day)


def need_bank(thing):
    """Refuse what is no Bank."""
    if not isinstance(thing, Bank):
        raise BadKind("Bank")


def resting(bank, day, rest):
    """The names of those in that rest on a day, rising."""
    need_bank(bank)
    need_day(day)
    if not is_whole(rest):
        raise NoPlace(rest)
    return [name for name in bank.names_in() if rests_on(bank, name, day, rest)]
