"""Whether a row of papers holds, and a ground that none has more."""

from paperkin.errors import BadPaper
from paperkin.making import names_and_fits
from paperkin.papers import is_paper, names_without, papers_without


def is_ground(thing, names, fits, size, many):
    """Whether a thing is a GROUND of many for these rising names; fits are all FIT papers within them."""
    if not isinstance(thing, tuple) or len(thing) == 0 or not isinstance(thing[0], str):
        return False
    if thing[0] == "few":
        return len(thing) == 1 and len(names) < (many + 1) * size
    if thing[0] == "none":
        return len(thing) == 1 and len(fits) == 0
    return thing[0] == "by" and len(thing) == 4 and is_by_first(thing, names, fits, size, many)


def is_by_first(thing, names, fits, size, many):
    """Whether four things are a GROUND by the first name."""
    word, name, tree, rows = thing
    if len(names) == 0 or not isinstance(name, str) or name != names[0]:
        return False
    papers = [paper for paper in fits if paper[0] == name]
    if many == 0 and len(papers) > 0:
        return False
    behind = [paper for paper in fits if paper[0] != name]
    if not are_rows_of(rows, papers) or not is_ground(tree, names[1:], behind, size, many):
        return False
    for paper, ground in rows:
        if not is_ground(ground, names_without(names, paper), papers_without(fits, paper), size, many - 1):
            return False
    return True


def are_rows_of(thing, papers):
    """Whether a thing is a tuple of pairs that begin with these papers, one each, in order."""
    if not isinstance(thing, tuple) or len(thing) != len(papers):
        return False
    return all([is_row_of(each, paper) for each, paper in zip(thing, papers)])


def is_row_of(thing, paper):
    """Whether a thing is a pair that begins with that paper."""
    if not isinstance(thing, tuple) or len(thing) != 2:
        return False
    # The kind is asked for first: what is no name may call itself equal to one.
    return is_paper(thing[0]) and thing[0] == paper


def need_row(papers, fits):
    """Refuse what is no row of these FIT papers."""
    if not isinstance(papers, list) or not all([is_paper(paper) for paper in papers]):
        raise BadPaper(None)
    left = fits
    for number, paper in enumerate(papers):
        if paper not in left:
            raise BadPaper(number)
        left = papers_without(left, paper)


def check_row(bank, wishes, size, papers, proof, day=0, aside=None):
    """Refuse what is no row of papers, or no GROUND that there are no more."""
    names, fits = names_and_fits(bank, wishes, size, day, aside)
    need_row(papers, fits)
    if not is_ground(proof, names, fits, size, len(papers)):
        raise BadPaper(-1)
