"""Shelves: a bank as it was, wishes, and the papers taken by them, which are apart."""

from paperkin.errors import BadPaper, Gone
from paperkin.making import names_and_fits
from paperkin.papers import need_paper, papers_without
from paperkin.rowproof import ground_among
from paperkin.rows import left_over, most_beside, most_papers, names_of, row_among


class Shelf:
    """A bank as it was when the shelf was made, and papers that are taken and given back."""

    def __init__(self, bank, wishes, size, day=0):
        names, fits = names_and_fits(bank, wishes, size, day, None)
        self.bank = bank.twin()
        self.wishes = list(wishes)
        self.size = size
        self.day = day
        # The bank here stays as it is, and so do the papers that fit.
        self.fits = fits
        self.taken = []

    def __eq__(self, other):
        return (
            isinstance(other, Shelf)
            and self.bank == other.bank
            and self.wishes == other.wishes
            and self.size == other.size
            and self.day == other.day
            and self.taken == other.taken
        )

    def __len__(self):
        return len(self.taken)

    def __str__(self):
        return "\n".join([" ".join(paper) for paper in self.taken])

    def __repr__(self):
        return f"Shelf({self.size}, {len(self.taken)})"

    def fits_left(self):
        """The FIT papers within the names that are LEFT."""
        return papers_without(self.fits, names_of(self.taken))

    def need_takeable(self, paper):
        """Refuse what can't be taken."""
        need_paper(paper)
        left = self.names_left()
        for name in paper:
            if name not in left:
                raise BadPaper(name)
        if paper not in self.fits:
            raise BadPaper(-1)

    def takes_paper(self, paper=None):
        """Take a paper, or the first one of MORE."""
        if paper is None:
            more = self.row_more()
            if len(more) == 0:
                raise Gone("no paper is left")
            self.taken.append(more[0])
            return more[0]
        self.need_takeable(paper)
        self.taken.append(tuple(paper))
        return tuple(paper)

    def takes_row(self):
        """Take all of MORE, in order."""
        more = self.row_more()
        self.taken.extend(more)
        return more

    def gives_back(self, paper):
        """Give back a paper that is taken."""
        need_paper(paper)
        if paper not in self.taken:
            raise Gone("the paper isn't taken")
        self.taken.remove(paper)

    def taken_now(self):
        """The papers taken, in the order in which they were."""
        return list(self.taken)

    def names_left(self):
        """The names IN that are in none of the papers taken, rising."""
        return left_over(self.bank, self.taken)

    def row_more(self):
        """The MOST ROW of what is left."""
        return row_among(tuple(self.names_left()), self.fits_left())

    def proof_more(self):
        """The GROUND that no more papers than that can be taken of what is left."""
        return ground_among(tuple(self.names_left()), self.fits_left(), self.size)

    def lost_by(self, paper):
        """How many papers fewer there could be in all if that one were taken."""
        self.need_takeable(paper)
        names = tuple(self.names_left())
        fits = self.fits_left()
        known = {}
        return most_papers(names, fits, known) - 1 - most_beside(names, fits, paper, known)

    def shelf_twin(self):
        """A Shelf that is equal and goes on by itself."""
        other = Shelf(self.bank, self.wishes, self.size, self.day)
        other.taken = list(self.taken)
        return other
