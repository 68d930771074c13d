"""The sums that papers have by wishes, and which wishes they meet."""

from paperkin.banks import rests_on
from paperkin.papers import need_ready
from paperkin.wishes import need_wish, need_wishes
from paperkin.words import need_day


def worth_of(bank, name, wish, day):
    """What one question gives to the SUM of a wish that isn't of kin."""
    if wish.word == "with":
        return 1 if name == wish.what else 0
    if wish.word == "rest":
        return 1 if rests_on(bank, name, day, wish.least) else 0
    question = bank.question(name)
    if wish.what not in ("", question.matter):
        return 0
    if wish.word == "many":
        return 1
    return question.toil if wish.word == "toil" else question.marks


def counted_kin(question, kin):
    """The kin of a question, or "" where only another one is counted."""
    return question.kin if kin in ("", question.kin) else ""


def kin_pairs(kins):
    """How many pairs of kins are alike, "" aside."""
    told = [kin for kin in kins if kin != ""]
    # Each pair is met twice, once from either side.
    return sum([told.count(kin) - 1 for kin in told]) // 2


def sums_among(bank, names, papers, wish, day):
    """The SUM of each of some papers, all of these names, by one wish."""
    # Each question is asked once, however many papers have it.
    if wish.word == "kin":
        kins = {name: counted_kin(bank.question(name), wish.what) for name in names}
        return [kin_pairs([kins[name] for name in paper]) for paper in papers]
    worths = {name: worth_of(bank, name, wish, day) for name in names}
    return [sum([worths[name] for name in paper]) for paper in papers]


def sum_table(bank, wishes, papers, day):
    """For each wish the SUMS of some READY papers, in their order."""
    return [sums_among(bank, bank.names_in(), papers, wish, day) for wish in wishes]


def sum_on(bank, paper, wish, day):
    """The SUM of what is known to be handed in rightly."""
    return sums_among(bank, paper, [paper], wish, day)[0]


def is_met(wish, total):
    """Whether a wish is met by a SUM."""
    if wish.word == "rest":
        return total <= wish.most
    return wish.least <= total <= wish.most


def sum_by(bank, paper, wish, day=0):
    """The SUM that a paper has by a wish on a day."""
    need_ready(bank, paper)
    need_wish(wish)
    need_day(day)
    return sum_on(bank, paper, wish, day)


def meets(bank, paper, wish, day=0):
    """Whether a paper meets a wish on a day."""
    return is_met(wish, sum_by(bank, paper, wish, day))


def sums_in_order(bank, paper, wishes, day):
    """The SUM of each wish, in their order."""
    need_ready(bank, paper)
    need_wishes(wishes)
    need_day(day)
    return [sum_on(bank, paper, wish, day) for wish in wishes]


def lacking(bank, paper, wishes, day=0):
    """Pairs of a number and a SUM of the wishes that a paper doesn't meet."""
    totals = sums_in_order(bank, paper, wishes, day)
    return [(number, totals[number]) for number, wish in enumerate(wishes) if not is_met(wish, totals[number])]


def sums_of(bank, paper, wishes, day=0):
    """The SUM of each unlike wish by its text, in their order."""
    totals = sums_in_order(bank, paper, wishes, day)
    return {str(wish): total for wish, total in zip(wishes, totals)}
