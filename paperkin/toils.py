"""Toil that is found by how questions were answered, and moves in a bank."""

from paperkin.banks import need_bank
from paperkin.errors import BadKind, NoPlace, NoSuch
from paperkin.sittings import need_sitting
from paperkin.words import is_whole

MOST_TOIL = 9
# As many as lie from the least toil, found where all answer rightly, to the most, found where none does.
TOILS_BETWEEN = 8


def need_sittings(things):
    """Refuse what is no list or tuple of Sittings."""
    if not isinstance(things, (list, tuple)):
        raise BadKind("list")
    for thing in things:
        need_sitting(thing)


def asked_by(sittings, name):
    """How many sheets of some sittings ask a question, and how many of these answer it rightly."""
    need_sittings(sittings)
    pairs = [each.asked(name) for each in sittings if each.has_asked(name)]
    if len(pairs) == 0:
        raise NoSuch(name)
    return sum([sheets for sheets, right in pairs]), sum([right for sheets, right in pairs])


def found_toil(sittings, name):
    """The FOUND toil of a question, or None where no sheet asks it."""
    sheets, right = asked_by(sittings, name)
    return None if sheets == 0 else MOST_TOIL - TOILS_BETWEEN * right // sheets


def nearer(toil, found, steps):
    """A toil moved by so many steps towards one that was found, not beyond it."""
    if found is None:
        return toil
    if found < toil:
        return max(found, toil - steps)
    return min(found, toil + steps)


def moved_toils(bank, sittings, steps=1):
    """The toils that move, by rising names of their questions."""
    need_bank(bank)
    need_sittings(sittings)
    if not is_whole(steps, 1, TOILS_BETWEEN):
        raise NoPlace(steps)
    told = {}
    for name in bank.names():
        if any([each.has_asked(name) for each in sittings]):
            toil = bank.question(name).toil
            moved = nearer(toil, found_toil(sittings, name), steps)
            if moved != toil:
                told[name] = moved
    return told


def move_toils(bank, sittings, steps=1):
    """Let the toils move in the bank, and tell those that did."""
    told = moved_toils(bank, sittings, steps)
    for name in told:
        bank.put(bank.question(name).changed(toil=told[name]))
    return told
