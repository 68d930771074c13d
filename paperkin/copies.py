"""Copies of a paper: its questions go round by the copy's number, and so do their answers."""

from paperkin.banks import Bank
from paperkin.errors import BadKind, NoPlace, NoSuch, TooMany
from paperkin.papers import questions_of
from paperkin.words import is_number, is_whole

MOST_NUMBER = 999


def need_number(thing):
    """Refuse what is no number of a copy."""
    if not is_whole(thing, 0, MOST_NUMBER):
        raise NoPlace(thing)


class Copy:
    """The questions of a paper as they were when the copy was made, and the copy's number."""

    def __init__(self, bank, paper, number=0):
        questions = questions_of(bank, paper)
        need_number(number)
        # Kept as the paper has them: what stands at a place is told by the number.
        self.plain = tuple(questions)
        self.number = number

    def __eq__(self, other):
        if not isinstance(other, Copy):
            return False
        # Most copies are told alike or unlike by less than all questions, which must be turned first.
        if self.number == other.number and self.plain == other.plain:
            return True
        return self.told_names() == other.told_names() and self.questions_told() == other.questions_told()

    def __len__(self):
        return len(self.plain)

    def __str__(self):
        return " ".join(self.told_names())

    def __repr__(self):
        return f"Copy({self.number})"

    def plain_names(self):
        """The names of the questions in the paper's order."""
        return [question.name for question in self.plain]

    def told_names(self):
        """The names of the questions in the copy's order."""
        first = self.number % len(self.plain)
        names = self.plain_names()
        return names[first:] + names[:first]

    def origin_of(self, place):
        """What origin tells of a place that is known to be one."""
        at = (place + self.number) % len(self.plain)
        return at, self.number * (place + 1) % len(self.plain[at].answers)

    def origins(self):
        """For each place what origin tells of it."""
        return [self.origin_of(place) for place in range(len(self.plain))]

    def questions_told(self):
        """The questions in the copy's order, turned."""
        return [self.plain[at].turned(turn) for at, turn in self.origins()]

    def need_place(self, place):
        """Refuse what is no place of the copy."""
        if not is_whole(place, 0, len(self.plain) - 1):
            raise NoPlace(place)

    def origin(self, place):
        """The place in the paper of what stands at a place, and by how many its answers are turned."""
        self.need_place(place)
        return self.origin_of(place)

    def question_at(self, place):
        """The question that stands at a place, turned."""
        at, turn = self.origin(place)
        return self.plain[at].turned(turn)

    def place_of(self, name):
        """The place at which the question of a name stands."""
        names = self.told_names()
        # The kind is asked for first: what is no text may call itself equal to a name.
        if not isinstance(name, str) or name not in names:
            raise NoSuch(name)
        return names.index(name)

    def numbered(self, number):
        """The copy of the same questions with another number."""
        return Copy(Bank(self.plain), tuple(self.plain_names()), number)

    def gone_on(self, by=1):
        """The copy whose number is more by so many."""
        if not is_number(by) or not is_whole(self.number + by, 0, MOST_NUMBER):
            raise NoPlace(by)
        return self.numbered(self.number + by)

    def first_one(self):
        """The copy of number 0."""
        return self.numbered(0)


def need_copy(thing):
    """Refuse what is no Copy."""
    if not isinstance(thing, Copy):
        raise BadKind("Copy")


def common_part(one, other):
    """The greatest number that parts both without a rest."""
    while other != 0:
        one, other = other, one % other
    return one


def common_multiple(one, other):
    """The least number from 1 on that both part without a rest."""
    return one * other // common_part(one, other)


def round_length(copy):
    """The least number from 1 on whose copy were equal to number 0."""
    need_copy(copy)
    # All questions stand at their places again by multiples of how many there are, and by no other numbers.
    length = len(copy)
    for place, question in enumerate(copy.plain):
        answers = len(question)
        # The number times place + 1 must be a multiple of how many answers there are: they are unlike texts.
        length = common_multiple(length, answers // common_part(answers, place + 1))
    return length


def meet_at(one, other):
    """The rising places at which two copies have a question of the same name."""
    need_copy(one)
    need_copy(other)
    names = one.told_names()
    others = other.told_names()
    return [place for place, (here, there) in enumerate(zip(names, others)) if here == there]


def apart_numbers(copy, many=2):
    """The first so many numbers of copies no two of which meet anywhere."""
    need_copy(copy)
    need_number(many)
    if many > len(copy):
        raise TooMany(len(copy))
    # Copies meet just where their numbers are alike when rounded by how many questions there are.
    return list(range(many))
