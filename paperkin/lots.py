"""Lots: wishes that no candidate meets all of, and the sums that show it."""

from paperkin.errors import NoPlace
from paperkin.papers import need_making, papers_among
from paperkin.sums import are_met, sum_table
from paperkin.wishes import are_numbers


def met_bits(wishes, table, many):
    """For each of so many candidates a number with a bit for each wish that it meets."""
    met = [0] * many
    for number, wish in enumerate(wishes):
        one = 1 << number
        met = [bits + one if fits else bits for bits, fits in zip(met, are_met(wish, table[number]))]
    return met


def looked_through(bank, wishes, size, day):
    """The SUMS of all candidates by each wish, and the bits of the wishes that each one meets."""
    need_making(bank, wishes, size, day)
    papers = papers_among(bank.names_in(), size)
    table = sum_table(bank, wishes, papers, day)
    return table, met_bits(wishes, table, len(papers))


def bits_of(numbers):
    """The number that has the bits of some wishes."""
    return sum([1 << number for number in numbers])


def numbers_in(bits):
    """The rising numbers of the bits that a number has."""
    return tuple([number for number in range(bits.bit_length()) if bits & (1 << number) != 0])


def lots_with(number, many):
    """Of all lots of so many wishes those that have one wish.

    Here and below some lots are one great number: a lot stands in it as the bit whose place is the number with the
    lot's own bits. So all lots are gone through at once.
    """
    step = 1 << number
    told = ((1 << step) - 1) << step
    for higher in range(number + 1, many):
        told += told << (1 << higher)
    return told


def met_together(met, many):
    """Of all lots of so many wishes those of which some candidate meets all."""
    together = 0
    for bits in sorted(set(met)):
        together |= 1 << bits
    # Who meets some wishes meets them without any one of them, too: so it is handed down wish by wish.
    for number in range(many):
        together |= (together & lots_with(number, many)) >> (1 << number)
    return together


def least_lots(met, many):
    """All LOTS of so many wishes of which none can be left out, in order."""
    together = met_together(met, many)
    every = (1 << (1 << many)) - 1
    least = every - together
    for number in range(many):
        having = lots_with(number, many)
        # A lot with this wish stays only if some candidate meets all others of it.
        least &= (every - having) | ((together << (1 << number)) & having)
    return sorted([numbers_in(lot) for lot in numbers_in(least)], key=lambda each: (len(each), each))


def meet_all(met, numbers):
    """For each candidate whether it meets all of some wishes."""
    wanted = bits_of(numbers)
    return [bits & wanted == wanted for bits in met]


def sums_beside(table, met, lot, number):
    """The rising unlike SUMS of one wish in candidates that meet all others of a lot."""
    others = meet_all(met, [each for each in lot if each != number])
    return tuple(sorted({total for total, suits_others in zip(table[number], others) if suits_others}))


def sums_with(table, met, lot):
    """The SUMS that go with a lot."""
    return tuple([(number, sums_beside(table, met, lot, number)) for number in lot])


def least_with_sums(bank, wishes, size, day):
    """The LEAST LOT and its SUMS, where no paper fits."""
    table, met = looked_through(bank, wishes, size, day)
    lot = least_lots(met, len(wishes))[0]
    return lot, sums_with(table, met, lot)


def least_lot(bank, wishes, size, day=0):
    """The LEAST LOT, or None where some paper fits."""
    lots = all_lots(bank, wishes, size, day)
    return lots[0] if len(lots) > 0 else None


def all_lots(bank, wishes, size, day=0):
    """All LOTS of which no wish can be left out, by how many there are, then as tuples."""
    table, met = looked_through(bank, wishes, size, day)
    return least_lots(met, len(wishes))


def lot_sums(bank, wishes, size, lot, day=0):
    """The SUMS of a LOT."""
    table, met = looked_through(bank, wishes, size, day)
    if not are_numbers(lot, len(wishes)) or any(meet_all(met, lot)):
        raise NoPlace(lot)
    return sums_with(table, met, lot)


def in_the_way(bank, wishes, size, day=0):
    """The rising pairs of wishes that stand in the way of one another."""
    table, met = looked_through(bank, wishes, size, day)
    return [lot for lot in least_lots(met, len(wishes)) if len(lot) == 2]
