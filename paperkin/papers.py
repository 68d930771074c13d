"""Papers: rising tuples of names of questions, and what they are looked for by."""

from paperkin.banks import need_bank
from paperkin.errors import BadKind, BadPaper, NoPlace, TooMany
from paperkin.wishes import need_wishes
from paperkin.words import is_name, is_whole, need_day

MOST_NAMES = 40
LEAST_SIZE = 1
MOST_IN = 14
LEAST_ROW_SIZE = 2
MOST_ROW_IN = 12


def are_names(thing):
    """Whether a list or tuple has one to forty names and nothing else."""
    return 1 <= len(thing) <= MOST_NAMES and all([is_name(each) for each in thing])


def is_paper(thing):
    """Whether a thing is a PAPER."""
    if not isinstance(thing, tuple) or not are_names(thing):
        return False
    return all([one < other for one, other in zip(thing, thing[1:])])


def need_paper(thing):
    """Refuse what is no PAPER."""
    if not is_paper(thing):
        raise BadPaper(None)


def need_ready(bank, paper):
    """Refuse a paper that isn't READY."""
    need_bank(bank)
    need_paper(paper)
    ready = bank.names_in()
    for name in paper:
        if name not in ready:
            raise BadPaper(name)


def paper_of(names):
    """The PAPER of a list or tuple of unlike names."""
    if not isinstance(names, (list, tuple)) or not are_names(names):
        raise BadPaper(None)
    seen = set()
    for name in names:
        if name in seen:
            raise BadPaper(name)
        seen.add(name)
    return tuple(sorted(names))


def questions_of(bank, paper):
    """The questions of a paper, in its order."""
    need_ready(bank, paper)
    return [bank.question(name) for name in paper]


def shared(one, other):
    """The names that stand in both papers, rising."""
    need_paper(one)
    need_paper(other)
    return [name for name in one if name in other]


def need_looked_for(bank, wishes, size, day, least, most):
    """Refuse what no papers can be looked for by, their size from least to most."""
    need_bank(bank)
    need_wishes(wishes)
    if not is_whole(size, least, most):
        raise NoPlace(size)
    need_day(day)


def need_few_in(bank, most):
    """Refuse a bank of which more questions are IN than can be looked through."""
    if len(bank) > most:
        raise TooMany(most)


def need_making(bank, wishes, size, day):
    """Refuse what papers can't be made by."""
    need_looked_for(bank, wishes, size, day, LEAST_SIZE, MOST_IN)
    need_few_in(bank, MOST_IN)


def need_aside(bank, aside):
    """Refuse what can't be ASIDE."""
    if aside is None:
        return
    if not isinstance(aside, (list, tuple)):
        raise BadKind("list")
    for name in aside:
        bank.need_known(name)


def aside_names(aside):
    """The names that are ASIDE, in a tuple."""
    return () if aside is None else tuple(aside)


def need_row_making(bank, wishes, size, day, aside):
    """Refuse what rows of papers can't be made by."""
    need_looked_for(bank, wishes, size, day, LEAST_ROW_SIZE, MOST_ROW_IN)
    need_aside(bank, aside)
    need_few_in(bank, MOST_ROW_IN)


def papers_among(names, size):
    """All rising tuples of so many of some rising names, in the order of tuples."""
    papers = [(name,) for name in names]
    for more in range(size - 1):
        papers = [paper + (name,) for paper in papers for name in names if paper[-1] < name]
    return papers


def names_without(names, others):
    """Some names, in a tuple, but for those that stand among others."""
    return tuple([name for name in names if name not in others])


def papers_without(papers, names):
    """Those of some papers that have none of these names."""
    return [paper for paper in papers if all([name not in names for name in paper])]
