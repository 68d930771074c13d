"""Names, texts, days and whole numbers, and which things are such."""

from paperkin.errors import BadText, NoPlace

LETTERS = "abcdefghijklmnopqrstuvwxyz"
MOST_LETTERS = 8
MOST_SIGNS = 30
PERCENT = 37


def is_number(thing):
    """Whether a thing is a whole number, however great or small."""
    return isinstance(thing, int) and not isinstance(thing, bool)


def is_whole(thing, least=0, most=9999):
    """Whether a thing is a whole number from least to most."""
    return is_number(thing) and least <= thing <= most


def is_name(thing):
    """Whether a thing is a NAME."""
    if not isinstance(thing, str) or not 1 <= len(thing) <= MOST_LETTERS:
        return False
    # Names are asked for so often that each sign by itself would take too long.
    return thing.isascii() and thing.isalpha() and thing.islower()


def is_name_or_empty(thing):
    """Whether a thing is a NAME or the text without signs."""
    # The kind is asked for first: a thing of another kind may call itself equal to a text.
    return is_name(thing) or (isinstance(thing, str) and thing == "")


def is_text(thing):
    """Whether a thing is a TEXT."""
    if not isinstance(thing, str) or not 1 <= len(thing) <= MOST_SIGNS:
        return False
    if thing[0] == " " or thing[-1] == " ":
        return False
    # Of the signs below the 128th just those from the blank to the last one can be printed.
    return thing.isascii() and thing.isprintable() and all([ord(sign) != PERCENT for sign in thing])


def need_name(thing):
    """Refuse what is no NAME."""
    if not is_name(thing):
        raise BadText("no name")


def need_day(thing):
    """Refuse what is no DAY."""
    if not is_whole(thing):
        raise NoPlace(thing)


def need_any_text(thing):
    """Refuse what is no text of whatever signs."""
    if not isinstance(thing, str):
        raise BadText("no text")


def words_in(text):
    """The words of a text, however many blanks stand between them."""
    # Parted by the blank alone: a line end or a tab is a sign like any other here.
    return [word for word in text.split(" ") if word != ""]


def squeezed(text):
    """A text without blanks at its ends, and one where several stand within."""
    need_any_text(text)
    return " ".join(words_in(text))


def number_by(word, most):
    """The number that a word is by at most so many figures, no 0 ahead but of 0; else None."""
    if not 1 <= len(word) <= most or not word.isascii() or not word.isdigit():
        return None
    if word[0] == "0" and word != "0":
        return None
    return int(word)
