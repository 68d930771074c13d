"""Rows of papers that are apart, and the most papers that such a row can have."""

from paperkin.banks import need_bank
from paperkin.errors import BadPaper
from paperkin.making import names_and_fits
from paperkin.papers import is_paper, names_without, papers_without


def papers_with(fits, name):
    """Those of some papers that begin with a name."""
    return [paper for paper in fits if paper[0] == name]


def papers_behind(fits, name):
    """Those of some papers that don't begin with a name."""
    return [paper for paper in fits if paper[0] != name]


def most_papers(names, fits, known):
    """How many papers can be taken APART; fits are all those within these rising names."""
    if len(fits) == 0:
        return 0
    # The names alone tell which papers are within them, so that what was counted for them once is known.
    if names not in known:
        known[names] = counted_papers(names, fits, known)
    return known[names]


def most_beside(names, fits, paper, known):
    """How many papers can be taken beside that one."""
    return most_papers(names_without(names, paper), papers_without(fits, paper), known)


def counted_papers(names, fits, known):
    """How many papers can be taken: without the first name, or by one that has it."""
    bound = len(names) // len(fits[0])
    most = most_papers(names[1:], papers_behind(fits, names[0]), known)
    for paper in papers_with(fits, names[0]):
        if most == bound:
            break
        most = max(most, 1 + most_beside(names, fits, paper, known))
    return most


def next_paper(names, fits, known):
    """The first paper with the first name that as many can be taken with as in all, or None."""
    most = most_papers(names, fits, known)
    for paper in papers_with(fits, names[0]):
        if 1 + most_beside(names, fits, paper, known) == most:
            return paper
    return None


def row_among(names, fits):
    """The MOST ROW of fits, which are all those within these rising names."""
    known = {}
    row = []
    left = names
    within = fits
    while len(within) > 0:
        paper = next_paper(left, within, known)
        if paper is None:
            within = papers_behind(within, left[0])
            left = left[1:]
        else:
            row.append(paper)
            left = names_without(left, paper)
            within = papers_without(within, paper)
    return row


def most_row(bank, wishes, size, day=0, aside=None):
    """The MOST ROW."""
    names, fits = names_and_fits(bank, wishes, size, day, aside)
    return row_among(names, fits)


def scarce_names(bank, wishes, size, day=0, aside=None):
    """The names without any one of which a MOST ROW has fewer papers, rising."""
    names, fits = names_and_fits(bank, wishes, size, day, aside)
    known = {}
    most = most_papers(names, fits, known)
    return [name for name in names if most_beside(names, fits, (name,), known) < most]


def need_papers(thing):
    """Refuse what is no list or tuple of PAPERS."""
    if not isinstance(thing, (list, tuple)):
        raise BadPaper(None)
    for number, paper in enumerate(thing):
        if not is_paper(paper):
            raise BadPaper(number)


def names_of(papers):
    """The names of some papers, each as often as it stands there."""
    return [name for paper in papers for name in paper]


def are_apart(papers):
    """Whether no two of some papers have a name in both."""
    need_papers(papers)
    names = names_of(papers)
    return len(set(names)) == len(names)


def left_over(bank, papers):
    """The names of those IN that are in none of some papers, rising."""
    need_bank(bank)
    need_papers(papers)
    return list(names_without(bank.names_in(), names_of(papers)))
