"""Papers: rising tuples of names of questions."""

from paperkin.banks import need_bank
from paperkin.errors import BadPaper
from paperkin.words import is_name

MOST_NAMES = 40


def are_names(thing):
    """Whether a list or tuple has one to forty names and nothing else."""
    return 1 <= len(thing) <= MOST_NAMES and all([is_name(each) for each in thing])


def is_paper(thing):
    """Whether a thing is a PAPER."""
    if not isinstance(thing, tuple) or not are_names(thing):
        return False
    return all([one < other for one, other in zip(thing, thing[1:])])


def need_paper(thing):
    """Refuse what is no PAPER."""
    if not is_paper(thing):
        raise BadPaper(None)


def need_ready(bank, paper):
    """Refuse a paper that isn't READY."""
    need_bank(bank)
    need_paper(paper)
    ready = bank.names_in()
    for name in paper:
        if name not in ready:
            raise BadPaper(name)


def paper_of(names):
    """The PAPER of a list or tuple of unlike names."""
    if not isinstance(names, (list, tuple)) or not are_names(names):
        raise BadPaper(None)
    seen = set()
    for name in names:
        if name in seen:
            raise BadPaper(name)
        seen.add(name)
    return tuple(sorted(names))


def questions_of(bank, paper):
    """The questions of a paper, in its order."""
    need_ready(bank, paper)
    return [bank.question(name) for name in paper]


def shared(one, other):
    """The names that stand in both papers, rising."""
    need_paper(one)
    need_paper(other)
    return [name for name in one if name in other]
