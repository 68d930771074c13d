"""Whether a lot and its sums show that no paper meets some wishes."""

from paperkin.errors import BadPaper
from paperkin.papers import need_making, papers_among
from paperkin.sums import is_met, sum_table
from paperkin.wishes import are_numbers
from paperkin.words import is_number


def is_sum_pair(thing, number):
    """Whether a thing is a pair of that number and a tuple of whole numbers."""
    if not isinstance(thing, tuple) or len(thing) != 2:
        return False
    told, totals = thing
    if not is_number(told) or told != number or not isinstance(totals, tuple):
        return False
    return all([is_number(total) for total in totals])


def are_sum_pairs(thing, lot):
    """Whether a thing is a tuple of pairs, one for each number of a lot, in order."""
    if not isinstance(thing, tuple) or len(thing) != len(lot):
        return False
    return all([is_sum_pair(each, number) for each, number in zip(thing, lot)])


def places_met(wishes, table, places, numbers):
    """Those of the places of candidates at which all of some wishes are met."""
    met = places
    for number in numbers:
        met = [at for at in met if is_met(wishes[number], table[number][at])]
    return met


def check_lot(bank, wishes, size, lot, sums, day=0):
    """Refuse what is no lot of which no wish can be left out, with its SUMS."""
    need_making(bank, wishes, size, day)
    if not are_numbers(lot, len(wishes)) or not are_sum_pairs(sums, lot):
        raise BadPaper(None)
    papers = papers_among(bank.names_in(), size)
    table = sum_table(bank, wishes, papers, day)
    places = list(range(len(papers)))
    if len(places_met(wishes, table, places, lot)) > 0:
        raise BadPaper(-1)
    for number, totals in sums:
        others = [each for each in lot if each != number]
        beside = places_met(wishes, table, places, others)
        found = sorted({table[number][at] for at in beside})
        # Without any such candidate the others are a lot by themselves.
        if len(found) == 0 or list(totals) != found:
            raise BadPaper(number)
