"""Lots: wishes that no candidate meets all of, and the sums that show it."""

from paperkin.errors import NoPlace
from paperkin.papers import need_making, papers_among
from paperkin.sums import is_met, sum_table
from paperkin.wishes import are_numbers


def met_bits(wishes, table, many):
    """For each of so many candidates a number with a bit for each wish that it meets."""
    bits = [0] * many
    for number, wish in enumerate(wishes):
        for at, total in enumerate(table[number]):
            if is_met(wish, total):
                bits[at] += 1 << number
    return bits


def looked_through(bank, wishes, size, day):
    """The SUMS of all candidates by each wish, and the bits of the wishes that each one meets."""
    need_making(bank, wishes, size, day)
    papers = papers_among(bank.names_in(), size)
    table = sum_table(bank, wishes, papers, day)
    return table, met_bits(wishes, table, len(papers))


def bits_of(numbers):
    """The number that has the bits of some wishes."""
    return sum([1 << number for number in numbers])


def numbers_in(bits, many):
    """The rising numbers of those of so many wishes whose bits a number has."""
    return tuple([number for number in range(many) if bits & (1 << number) != 0])


def met_together(met, many):
    """For the bits of any of so many wishes whether some candidate meets all of these."""
    together = [False] * (1 << many)
    for bits in met:
        together[bits] = True
    # Who meets some wishes meets them without any one of them, too: so it is handed down wish by wish.
    for number in range(many):
        for bits in range(1 << many):
            if bits & (1 << number) != 0 and together[bits]:
                together[bits - (1 << number)] = True
    return together


def is_least(lot, together):
    """Whether no candidate meets all of a lot, but some all but one, whichever one that is."""
    bits = bits_of(lot)
    return not together[bits] and all([together[bits - (1 << number)] for number in lot])


def least_lots(met, many):
    """All LOTS of so many wishes of which none can be left out, in order."""
    together = met_together(met, many)
    chosen = [numbers_in(bits, many) for bits in range(1 << many)]
    return sorted([lot for lot in chosen if is_least(lot, together)], key=lambda each: (len(each), each))


def meet_all(met, numbers):
    """For each candidate whether it meets all of some wishes."""
    wanted = bits_of(numbers)
    return [bits & wanted == wanted for bits in met]


def sums_beside(table, met, lot, number):
    """The rising unlike SUMS of one wish in candidates that meet all others of a lot."""
    others = meet_all(met, [each for each in lot if each != number])
    return tuple(sorted({total for total, suits_others in zip(table[number], others) if suits_others}))


def sums_with(table, met, lot):
    """The SUMS that go with a lot."""
    return tuple([(number, sums_beside(table, met, lot, number)) for number in lot])


def least_with_sums(bank, wishes, size, day):
    """The LEAST LOT and its SUMS, where no paper fits."""
    table, met = looked_through(bank, wishes, size, day)
    lot = least_lots(met, len(wishes))[0]
    return lot, sums_with(table, met, lot)


def least_lot(bank, wishes, size, day=0):
    """The LEAST LOT, or None where some paper fits."""
    lots = all_lots(bank, wishes, size, day)
    return lots[0] if len(lots) > 0 else None


def all_lots(bank, wishes, size, day=0):
    """All LOTS of which no wish can be left out, by how many there are, then as tuples."""
    table, met = looked_through(bank, wishes, size, day)
    return least_lots(met, len(wishes))


def lot_sums(bank, wishes, size, lot, day=0):
    """The SUMS of a LOT."""
    table, met = looked_through(bank, wishes, size, day)
    if not are_numbers(lot, len(wishes)) or any(meet_all(met, lot)):
        raise NoPlace(lot)
    return sums_with(table, met, lot)


def is_in_the_way(met, one, other):
    """Whether some candidates meet the one wish, some the other one, none both."""
    ones = meet_all(met, [one])
    others = meet_all(met, [other])
    return any(ones) and any(others) and not any(meet_all(met, [one, other]))


def in_the_way(bank, wishes, size, day=0):
    """The rising pairs of wishes that stand in the way of one another."""
    table, met = looked_through(bank, wishes, size, day)
    many = len(wishes)
    pairs = [(one, other) for one in range(many) for other in range(one + 1, many)]
    return [(one, other) for one, other in pairs if is_in_the_way(met, one, other)]
