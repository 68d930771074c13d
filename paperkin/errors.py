"""What the program refuses by, each kind of refusal a class of its own."""


class BankError(Exception):
    """What several refusals have in common; it is not raised itself."""


class BadWish(BankError):
    """A wish, or a part of one, that can't be."""

    def __init__(self, at):
        self.at = at


class BadPaper(BankError):
    """A paper, or a name or number in it, that can't be."""

    def __init__(self, at):
        self.at = at


class BadSheet(BankError):
    """A sheet, or a place of it, that can't be."""

    def __init__(self, at):
        self.at = at


class BadLine(BankError):
    """A word in a row of a text that can't stand there."""

    def __init__(self, row, word):
        self.row = row
        self.word = word


class Gone(BankError):
    """Something that isn't there any more, or never was."""


class BadQuestion(ValueError):
    """A part of a question that can't be there."""

    def __init__(self, part):
        self.part = part

    def __str__(self):
        return f"bad {self.part!s}"


class BadText(ValueError):
    """What is no text of the kind that is wanted."""


class NoSuch(KeyError):
    """A name by which there is nothing."""

    def __init__(self, name):
        self.name = name

    def __str__(self):
        return f"nothing called {self.name!r}"


class NoPlace(IndexError):
    """A number that is beyond its bounds, or is none."""

    def __init__(self, at):
        self.at = at


class TooMany(OverflowError):
    """More than there may be."""

    def __init__(self, most):
        self.most = most

    def __str__(self):
        return f"more than {self.most!s}"


class BadKind(TypeError):
    """A thing of another kind than is wanted."""

    def __init__(self, wanted):
        self.wanted = wanted


class Unmet(LookupError):
    """Wishes that no paper meets, and the sums that show it."""

    def __init__(self, lot, sums):
        self.lot = lot
        self.sums = sums


class NoAnswers(ZeroDivisionError):
    """Nothing was answered."""


class Twice(RuntimeError):
    """A name that is there already."""

    def __init__(self, name):
        self.name = name
