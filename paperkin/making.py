"""Papers made by wishes."""

from paperkin.errors import Unmet
from paperkin.lots import least_with_sums
from paperkin.papers import (
    aside_names, names_without, need_making, need_row_making, papers_among, papers_without, questions_of,
)
from paperkin.questions import toil_sum
from paperkin.sums import are_met, sums_among


def fit_papers(bank, wishes, size, day=0):
    """All candidates that meet all wishes, in the order of tuples."""
    need_making(bank, wishes, size, day)
    names = bank.names_in()
    papers = papers_among(names, size)
    for wish in wishes:
        met = are_met(wish, sums_among(bank, names, papers, wish, day))
        papers = [paper for paper, fits in zip(papers, met) if fits]
    return papers


def some_fit_papers(bank, wishes, size, day):
    """The fit papers, of which there is one at least."""
    papers = fit_papers(bank, wishes, size, day)
    if len(papers) == 0:
        lot, sums = least_with_sums(bank, wishes, size, day)
        raise Unmet(lot, sums)
    return papers


def first_paper(bank, wishes, size, day=0):
    """The first fit paper."""
    return some_fit_papers(bank, wishes, size, day)[0]


def best_paper(bank, wishes, size, day=0, key=None):
    """The first fit paper whose key is least; without a key, whose toil is."""
    papers = some_fit_papers(bank, wishes, size, day)
    asked = toil_sum if key is None else key
    # All lists are made ahead, so that nothing that a key does changes what the next one is asked of.
    lists = [questions_of(bank, paper) for paper in papers]
    told = [asked(questions) for questions in lists]
    return papers[told.index(min(told))]


def names_and_fits(bank, wishes, size, day, aside):
    """What rows are made of: the names IN that aren't ASIDE, rising, and the FIT papers within them."""
    need_row_making(bank, wishes, size, day, aside)
    gone = aside_names(aside)
    return names_without(bank.names_in(), gone), papers_without(fit_papers(bank, wishes, size, day), gone)
