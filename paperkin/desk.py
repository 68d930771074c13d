"""A desk: a bank, wishes and a day, led by lines of words."""

from paperkin.banks import Bank, need_bank
from paperkin.banktext import bank_of, bank_text, paper_text
from paperkin.copies import Copy
from paperkin.errors import BadLine, BadPaper, BadText, BadWish, Gone, NoPlace, NoSuch, TooMany, Unmet
from paperkin.joining import joined_banks
from paperkin.making import first_paper
from paperkin.rows import most_row
from paperkin.sheets import key_sheet, sheet_text
from paperkin.sums import sums_of
from paperkin.wishes import need_wishes, wish_of
from paperkin.words import number_by

MOST_FIGURES = 4
# By each first word: how many words there are at least and at most (0: as many as may be), and at which place,
# from 0, a number stands (0: nowhere).
FORMS = {
    "load": (1, 1, 0), "join": (1, 1, 0), "out": (3, 0, 0), "in": (2, 2, 0), "drop": (2, 2, 0), "use": (3, 3, 2),
    "unuse": (3, 3, 2), "wish": (2, 0, 0), "unwish": (2, 2, 1), "day": (2, 2, 1), "undo": (1, 1, 0),
    "show": (1, 1, 0), "names": (1, 1, 0), "wishes": (1, 1, 0), "paper": (2, 2, 1), "papers": (2, 2, 1),
    "sums": (2, 0, 0), "copy": (3, 0, 1), "key": (3, 0, 1),
}
WITH_TEXT = ("load", "join")
DEEDS = ("load", "join", "out", "in", "drop", "use", "unuse", "wish", "unwish", "day")


def has_form(words):
    """Whether words are such a line: by the first one, how many there are, and the number among them."""
    if words[0] not in FORMS or "" in words:
        return False
    least, most, place = FORMS[words[0]]
    if len(words) < least or 0 < most < len(words):
        return False
    return place == 0 or number_by(words[place], MOST_FIGURES) is not None


def is_line(line):
    """Whether a thing is a line that the desk knows."""
    if not isinstance(line, str):
        return False
    first, end, text = line.partition("\n")
    words = first.split(" ")
    return has_form(words) and (end == "" or words[0] in WITH_TEXT)


def led_bank(bank, words):
    """Another bank, to which that is done which a line of words says."""
    led = bank.twin()
    if words[0] == "out":
        led.taken_out(words[1], " ".join(words[2:]))
    elif words[0] == "in":
        led.put_back(words[1])
    elif words[0] == "drop":
        led.dropped(words[1])
    elif words[0] == "use":
        led.used_on(words[1], int(words[2]))
    else:
        led.unused_on(words[1], int(words[2]))
    return led


def count_told(bank, names):
    """How many questions a bank has, and which of some names are others now."""
    moved = [f"; {name} {names[name]}" for name in names if names[name] != name]
    return f"{len(bank.names())} questions" + "".join(moved)


class Desk:
    """A bank, wishes and a day, and those that were there ahead of each deed that stands."""

    def __init__(self, bank=None):
        if bank is not None:
            need_bank(bank)
        self.bank = Bank() if bank is None else bank.twin()
        self.wishes = []
        self.day = 0
        self.past = []

    def __eq__(self, other):
        return (
            isinstance(other, Desk)
            and self.bank == other.bank
            and self.wishes == other.wishes
            and self.day == other.day
        )

    def __len__(self):
        return len(self.bank)

    def __str__(self):
        return str(bank_text(self.bank))

    def __repr__(self):
        return f"Desk({len(self.bank)})"

    def said(self, line):
        """What the desk answers to a line."""
        if not is_line(line):
            return "bad line"
        try:
            return self.answered(line)
        except BadLine as bad_line:
            return f"bad row {bad_line.row} {bad_line.word}"
        except BadText:
            return "bad text"
        except BadWish as bad_wish:
            return f"bad wish {bad_wish.at}"
        except BadPaper:
            return "bad paper"
        except NoSuch as no_such:
            return str(no_such)
        except TooMany as too_many:
            return str(too_many)
        except NoPlace:
            return "no place"
        except Gone:
            return "gone"

    def answered(self, line):
        """What a line that the desk knows is answered by, if it isn't refused."""
        first, end, text = line.partition("\n")
        words = first.split(" ")
        if words[0] == "undo":
            return self.undo()
        if words[0] in DEEDS:
            return self.deed(words, text)
        told = self.told_of_papers(words) if len(words) > 1 else self.told_of_all(words[0])
        return "none" if told == "" else told

    def undo(self):
        """Let all be as it was ahead of the last deed that stands."""
        if len(self.past) == 0:
            raise Gone("no deed stands")
        self.bank, self.wishes, self.day = self.past.pop()
        return "done"

    def deed(self, words, text):
        """Do a deed; what it changes is made anew, so that what was there ahead can stand again."""
        bank = self.bank
        wishes = self.wishes
        day = self.day
        told = "done"
        if words[0] == "load":
            bank = bank_of(text)
            told = count_told(bank, {})
        elif words[0] == "join":
            bank, names = joined_banks(bank, bank_of(text))
            told = count_told(bank, names)
        elif words[0] == "wish":
            wishes = [*wishes, wish_of(" ".join(words[1:]))]
            need_wishes(wishes)
        elif words[0] == "unwish":
            wishes = without_number(wishes, int(words[1]))
        elif words[0] == "day":
            day = int(words[1])
        else:
            bank = led_bank(bank, words)
        self.past.append((self.bank, self.wishes, self.day))
        self.bank, self.wishes, self.day = bank, wishes, day
        return told

    def told_of_all(self, word):
        """The bank's text, the names of those in, or the wishes."""
        if word == "show":
            return bank_text(self.bank)
        if word == "names":
            return " ".join(self.bank.names_in())
        return ", ".join([str(wish) for wish in self.wishes])

    def told_of_papers(self, words):
        """What is told of papers by a number, or by names behind it."""
        if words[0] == "paper":
            return self.paper_told(int(words[1]))
        if words[0] == "papers":
            row = most_row(self.bank, self.wishes, int(words[1]), self.day)
            return ", ".join([paper_text(paper) for paper in row])
        if words[0] == "sums":
            sums = sums_of(self.bank, tuple(words[1:]), self.wishes, self.day)
            return ", ".join([f"{text}: {sums[text]}" for text in sums])
        copy = Copy(self.bank, tuple(words[2:]), int(words[1]))
        return str(copy) if words[0] == "copy" else sheet_text(copy, key_sheet(copy))

    def paper_told(self, size):
        """The first paper of a size, or the least lot that none meets."""
        try:
            return paper_text(first_paper(self.bank, self.wishes, size, self.day))
        except Unmet as unmet:
            return " ".join(["unmet"] + [str(number) for number in unmet.lot])


def without_number(wishes, number):
    """Wishes without the one of a number."""
    if number >= len(wishes):
        raise NoPlace(number)
    return [wish for at, wish in enumerate(wishes) if at != number]
