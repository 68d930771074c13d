"""Papers: rising tuples of names of questions, and what they are looked for by."""

from paperkin.banks import need_bank
from paperkin.errors import BadKind, BadPaper, NoPlace, TooMany
from paperkin.wishes import need_wishes
from paperkin.words import is_name, is_whole, need_day

MOST_NAMES = 40
LEAST_SIZE = 1
MOST_IN = 14
LEAST_ROW_SIZE = 2
MOST_ROW_IN = 12


def are_names(thing):
    """Whether a list or tuple has one to forty names and nothing else."""
    return 1 <= len(thing) <= MOST_NAMES and all([is_name(each) for each in thing])


def is_paper(thing):
    """Whether a thing is a PAPER."""
    if not isinstance(thing, tuple) or not are_names(thing):
        return False
    return all([one < other for one, other in zip(thing, thing[1:])])


def need_paper(thing):
    """Refuse what is no PAPER."""
    if not is_paper(thing):
        raise BadPaper(None)


def is_ready(bank, paper):
    """Whether a thing is a PAPER that is READY."""
    if not isinstance(paper, tuple) or not 1 <= len(paper) <= MOST_NAMES:
        return False
    ahead = ""
    for name in paper:
        # What is in the bank is a NAME: its letters needn't be looked at.
        if not isinstance(name, str) or name <= ahead or not bank.is_in(name):
            return False
        ahead = name
    return True


def need_ready(bank, paper):
    """Refuse a paper that isn't READY."""
    need_bank(bank)
    if is_ready(bank, paper):
        return
    need_paper(paper)
    for name in paper:
        if not bank.is_in(name):
            raise BadPaper(name)


def paper_of(names):
    """The PAPER of a list or tuple of unlike names."""
    if not isinstance(names, (list, tuple)) or not are_names(names):
        raise BadPaper(None)
    seen = set()
    for name in names:
        if name in seen:
            raise BadPaper(name)
        seen.add(name)
    return tuple(sorted(names))


def questions_of(bank, paper):
    """The questions of a paper, in its order."""
    need_ready(bank, paper)
    return bank.questions_by(paper)


def shared(one, other):
    """The names that stand in both papers, rising."""
    need_paper(one)
    need_paper(other)
    return [name for name in one if name in other]


def need_looked_for(bank, wishes, size, day, least, most):
    """Refuse what no papers can be looked for by, their size from least to most."""
    need_bank(bank)
    need_wishes(wishes)
    if not is_whole(size, least, most):
        raise NoPlace(size)
    need_day(day)


def need_few_in(bank, most):
    """Refuse a bank of which more questions are IN than can be looked through."""
    if len(bank) > most:
        raise TooMany(most)


def need_making(bank, wishes, size, day):
    """Refuse what papers can't be made by."""
    need_looked_for(bank, wishes, size, day, LEAST_SIZE, MOST_IN)
    need_few_in(bank, MOST_IN)


def need_aside(bank, aside):
    """Refuse what can't be ASIDE."""
    if aside is None:
        return
    if not isinstance(aside, (list, tuple)):
        raise BadKind("list")
    for name in aside:
        bank.need_known(name)


def aside_names(aside):
    """The names that are ASIDE, in a tuple."""
    return () if aside is None else tuple(aside)


def need_row_making(bank, wishes, size, day, aside):
    """Refuse what rows of papers can't be made by."""
    need_looked_for(bank, wishes, size, day, LEAST_ROW_SIZE, MOST_ROW_IN)
    need_aside(bank, aside)
    need_few_in(bank, MOST_ROW_IN)


def longer_ends(names, ends):
    """For each of some rising names all ends of papers that begin with it or one behind it, in order.

    The ends that can stand behind each name are handed in, in the names' order.
    """
    told = []
    longer = []
    for at in range(len(names) - 1, -1, -1):
        longer = [(names[at],) + end for end in ends[at]] + longer
        told.append(longer)
    return told[::-1]


def papers_among(names, size):
    """All rising tuples of so many of some rising names, in the order of tuples."""
    spare = len(names) - size
    if spare < 0:
        return []
    # From the last place to the first, by the names that leave enough ahead: so each end that is made ends a paper.
    ends = [[()]] * (spare + 1)
    for place in range(size - 1, -1, -1):
        ends = longer_ends(names[place:place + spare + 1], ends)
    return ends[0]


def names_without(names, others):
    """Some names, in a tuple, but for those that stand among others."""
    return tuple([name for name in names if name not in others])


def papers_without(papers, names):
    """Those of some papers that have none of these names."""
    return [paper for paper in papers if all([name not in names for name in paper])]
