"""The sums that papers have by wishes, and which wishes they meet."""

from paperkin.papers import need_ready
from paperkin.wishes import need_wish, need_wishes
from paperkin.words import need_day


def worths_of(bank, questions, wish, day):
    """What each of a bank's questions gives to the SUM of a wish that isn't of kin."""
    what = wish.what
    if wish.word == "many":
        return [1 if what == "" or what == each.matter else 0 for each in questions]
    if wish.word == "toil":
        return [each.toil if what == "" or what == each.matter else 0 for each in questions]
    if wish.word == "marks":
        return [each.marks if what == "" or what == each.matter else 0 for each in questions]
    if wish.word == "rest":
        first = day - wish.least + 1
        return [1 if bank.was_used(each.name, first, day) else 0 for each in questions]
    return [1 if what == each.name else 0 for each in questions]


def kins_of(questions, kin):
    """The kin of each of some questions, or "" where only another one is counted."""
    return [each.kin if kin == "" or kin == each.kin else "" for each in questions]


def kin_pairs(kins):
    """How many pairs of kins are alike, "" aside."""
    met = {}
    pairs = 0
    for kin in kins:
        if kin != "":
            ahead = met.get(kin, 0)
            pairs += ahead
            met[kin] = ahead + 1
    return pairs


def sums_among(bank, names, papers, wish, day):
    """The SUM of each of some papers, all of these names, by one wish."""
    # Each question is asked once, however many papers have it.
    questions = bank.questions_by(names)
    if wish.word == "kin":
        kins = dict(zip(names, kins_of(questions, wish.what)))
        return [kin_pairs([kins[name] for name in paper]) for paper in papers]
    worths = dict(zip(names, worths_of(bank, questions, wish, day)))
    return [sum([worths[name] for name in paper]) for paper in papers]


def sum_table(bank, wishes, papers, day):
    """For each wish the SUMS of some READY papers, in their order."""
    names = bank.names_in()
    return [sums_among(bank, names, papers, wish, day) for wish in wishes]


def sum_on(bank, questions, wish, day):
    """The SUM that a paper of these questions of the bank has by a wish."""
    if wish.word == "kin":
        return kin_pairs(kins_of(questions, wish.what))
    return sum(worths_of(bank, questions, wish, day))


def least_sum(wish):
    """The least SUM that meets a wish: of rest its least is a number of days."""
    return 0 if wish.word == "rest" else wish.least


def is_met(wish, total):
    """Whether a wish is met by a SUM."""
    return least_sum(wish) <= total <= wish.most


def are_met(wish, totals):
    """For each of some SUMS whether a wish is met by it."""
    least = least_sum(wish)
    most = wish.most
    return [least <= total <= most for total in totals]


def sum_by(bank, paper, wish, day=0):
    """The SUM that a paper has by a wish on a day."""
    need_ready(bank, paper)
    need_wish(wish)
    need_day(day)
    return sum_on(bank, bank.questions_by(paper), wish, day)


def meets(bank, paper, wish, day=0):
    """Whether a paper meets a wish on a day."""
    return is_met(wish, sum_by(bank, paper, wish, day))


def sums_in_order(bank, paper, wishes, day):
    """The SUM of each wish, in their order."""
    need_ready(bank, paper)
    need_wishes(wishes)
    need_day(day)
    questions = bank.questions_by(paper)
    return [sum_on(bank, questions, wish, day) for wish in wishes]


def lacking(bank, paper, wishes, day=0):
    """Pairs of a number and a SUM of the wishes that a paper doesn't meet."""
    totals = sums_in_order(bank, paper, wishes, day)
    return [(number, totals[number]) for number, wish in enumerate(wishes) if not is_met(wish, totals[number])]


def sums_of(bank, paper, wishes, day=0):
    """The SUM of each unlike wish by its text, in their order."""
    totals = sums_in_order(bank, paper, wishes, day)
    return {str(wish): total for wish, total in zip(wishes, totals)}
