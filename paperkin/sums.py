"""The sums that papers have by wishes, and which wishes they meet."""

from paperkin.banks import rests_on
from paperkin.papers import need_ready
from paperkin.questions import toil_sum
from paperkin.wishes import need_wish, need_wishes
from paperkin.words import need_day


def sum_of_matter(questions, word, matter):
    """How many questions there are of a matter, or their toil or marks together."""
    chosen = [question for question in questions if matter in ("", question.matter)]
    if word == "many":
        return len(chosen)
    if word == "toil":
        return toil_sum(chosen)
    return sum([question.marks for question in chosen])


def kin_pairs(questions, kin):
    """How many pairs of questions are kin, of that kin or of any."""
    many = 0
    for at, one in enumerate(questions):
        if kin in ("", one.kin):
            many += len([other for other in questions[at + 1:] if one.is_kin(other)])
    return many


def sum_on(bank, paper, wish, day):
    """The SUM of what is known to be handed in rightly."""
    if wish.word == "with":
        return 1 if wish.what in paper else 0
    if wish.word == "rest":
        return len([name for name in paper if rests_on(bank, name, day, wish.least)])
    questions = [bank.question(name) for name in paper]
    if wish.word == "kin":
        return kin_pairs(questions, wish.what)
    return sum_of_matter(questions, wish.word, wish.what)


def is_met(wish, total):
    """Whether a wish is met by a SUM."""
    if wish.word == "rest":
        return total <= wish.most
    return wish.least <= total <= wish.most


def sum_by(bank, paper, wish, day=0):
    """The SUM that a paper has by a wish on a day."""
    need_ready(bank, paper)
    need_wish(wish)
    need_day(day)
    return sum_on(bank, paper, wish, day)


def meets(bank, paper, wish, day=0):
    """Whether a paper meets a wish on a day."""
    return is_met(wish, sum_by(bank, paper, wish, day))


def sums_in_order(bank, paper, wishes, day):
    """The SUM of each wish, in their order."""
    need_ready(bank, paper)
    need_wishes(wishes)
    need_day(day)
    return [sum_on(bank, paper, wish, day) for wish in wishes]


def lacking(bank, paper, wishes, day=0):
    """Pairs of a number and a SUM of the wishes that a paper doesn't meet."""
    totals = sums_in_order(bank, paper, wishes, day)
    return [(number, totals[number]) for number, wish in enumerate(wishes) if not is_met(wish, totals[number])]


def sums_of(bank, paper, wishes, day=0):
    """The SUM of each unlike wish by its text, in their order."""
    totals = sums_in_order(bank, paper, wishes, day)
    return {str(wish): total for wish, total in zip(wishes, totals)}
