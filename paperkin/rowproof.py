"""Grounds that from some names no more papers can be taken apart."""

from paperkin.making import names_and_fits
from paperkin.papers import names_without, papers_without
from paperkin.rows import most_papers, papers_behind, papers_with


def ground_of(names, fits, size, many, known):
    """The GROUND that is told; fits are all FIT papers within these rising names, of which many can be taken."""
    if len(names) < (many + 1) * size:
        return ("few",)
    if len(fits) == 0:
        return ("none",)
    # The same names are come to by many ways: their ground is made once, and stands wherever it is due.
    if (names, many) not in known:
        known[(names, many)] = ground_by_first(names, fits, size, many, known)
    return known[(names, many)]


def ground_by_first(names, fits, size, many, known):
    """The GROUND by the first name: without it, and by each paper that has it."""
    tree = ground_of(names[1:], papers_behind(fits, names[0]), size, many, known)
    rows = [(paper, ground_beside(names, fits, paper, many, known)) for paper in papers_with(fits, names[0])]
    return ("by", names[0], tree, tuple(rows))


def ground_beside(names, fits, paper, many, known):
    """The GROUND for the names that a paper leaves, one paper being taken."""
    return ground_of(names_without(names, paper), papers_without(fits, paper), len(paper), many - 1, known)


def ground_among(names, fits, size):
    """The GROUND for some names of as many papers as can be taken from them."""
    return ground_of(names, fits, size, most_papers(names, fits, {}), {})


def row_proof(bank, wishes, size, day=0, aside=None):
    """The GROUND that no row has more papers than a MOST ROW."""
    names, fits = names_and_fits(bank, wishes, size, day, aside)
    return ground_among(names, fits, size)
