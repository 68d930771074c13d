"""What the document says, done the plainest way: by trying everything, and making everything anew."""

import itertools


def sum_of(bank, paper, wish, day):
    questions = [bank.question(name) for name in paper]
    chosen = [each for each in questions if wish.what in ("", each.matter)]
    if wish.word == "many":
        return len(chosen)
    if wish.word == "toil":
        return sum(each.toil for each in chosen)
    if wish.word == "marks":
        return sum(each.marks for each in chosen)
    if wish.word == "with":
        return int(wish.what in paper)
    if wish.word == "rest":
        return sum(any(0 <= day - each < wish.least for each in bank.days_of(name)) for name in paper)
    pairs = itertools.combinations(questions, 2)
    return sum(one.kin == other.kin != "" and wish.what in ("", one.kin) for one, other in pairs)


def meets(bank, paper, wish, day):
    least = 0 if wish.word == "rest" else wish.least
    return least <= sum_of(bank, paper, wish, day) <= wish.most


def candidates(bank, size):
    return list(itertools.combinations(bank.names_in(), size))


def fits(bank, wishes, size, day=0, names=None):
    """The fit papers, only those within some names where these are told."""
    return [
        paper for paper in candidates(bank, size)
        if all(meets(bank, paper, wish, day) for wish in wishes) and (names is None or set(paper) <= set(names))
    ]


def lots(bank, wishes, size, day=0):
    """All lots, also those of which a wish can be left out, by how many there are, then as tuples."""
    met = {
        tuple(meets(bank, paper, wish, day) for wish in wishes) for paper in candidates(bank, size)
    }
    numbers = range(len(wishes))
    chosen = [lot for many in range(len(wishes) + 1) for lot in itertools.combinations(numbers, many)]
    return [lot for lot in chosen if not any(all(row[number] for number in lot) for row in met)]


def least_lots(bank, wishes, size, day=0):
    """Those of which no wish can be left out."""
    all_of_them = lots(bank, wishes, size, day)
    return [lot for lot in all_of_them if not any(set(other) < set(lot) for other in all_of_them)]


def lot_sums(bank, wishes, size, lot, day=0):
    told = []
    for number in lot:
        others = [wishes[each] for each in lot if each != number]
        papers = fits(bank, others, size, day)
        told.append((number, tuple(sorted({sum_of(bank, paper, wishes[number], day) for paper in papers}))))
    return tuple(told)


def in_the_way(bank, wishes, size, day=0):
    def some(*numbers):
        return fits(bank, [wishes[number] for number in numbers], size, day) != []
    pairs = itertools.combinations(range(len(wishes)), 2)
    return [(one, other) for one, other in pairs if some(one) and some(other) and not some(one, other)]


def names_left(bank, aside):
    return [name for name in bank.names_in() if name not in (aside or ())]


def rows(papers):
    """All rows of some papers, each rising."""
    told = [[]]
    for number, paper in enumerate(papers):
        rest = [other for other in papers[number + 1:] if not set(other) & set(paper)]
        told.extend([paper] + row for row in rows(rest))
    return told


def most_row(bank, wishes, size, day=0, aside=None):
    return min(rows(fits(bank, wishes, size, day, names_left(bank, aside))), key=lambda row: (-len(row), row))


def ground(names, papers, size, many):
    """The ground that is told; papers are the fit ones within names."""
    if len(names) < (many + 1) * size:
        return ("few",)
    if not papers:
        return ("none",)

    def without(gone):
        return [name for name in names if name not in gone], [each for each in papers if not set(each) & set(gone)]
    told = []
    for paper in papers:
        if names[0] in paper:
            told.append((paper, ground(*without(paper), size, many - 1)))
    return ("by", names[0], ground(*without(names[:1]), size, many), tuple(told))


def by_everywhere(names, papers, size, many):
    """A ground that has "by" wherever that is one; papers are the fit ones within names, many as can be taken."""
    if not names:
        return ("few",)

    def without(gone):
        return [name for name in names if name not in gone], [each for each in papers if not set(each) & set(gone)]
    told = [(paper, by_everywhere(*without(paper), size, many - 1)) for paper in papers if names[0] in paper]
    return ("by", names[0], by_everywhere(*without(names[:1]), size, many), tuple(told))


def is_ground(thing, names, papers, size, many):
    """Whether a thing is a ground, by the words of the document."""
    if type(thing) is not tuple or not thing or type(thing[0]) is not str:
        return False
    if len(thing) == 1:
        return (thing[0] == "few" and len(names) < (many + 1) * size) or (thing[0] == "none" and not papers)
    if thing[0] != "by" or len(thing) != 4 or not names or type(thing[1]) is not str or thing[1] != names[0]:
        return False

    def without(gone):
        return [name for name in names if name not in gone], [each for each in papers if not set(each) & set(gone)]
    due = [paper for paper in papers if names[0] in paper]
    if many == 0 and due or type(thing[3]) is not tuple or len(thing[3]) != len(due):
        return False
    if not is_ground(thing[2], *without(names[:1]), size, many):
        return False
    for pair, paper in zip(thing[3], due):
        if type(pair) is not tuple or len(pair) != 2 or type(pair[0]) is not tuple:
            return False
        if any(type(name) is not str for name in pair[0]) or pair[0] != paper:
            return False
        if not is_ground(pair[1], *without(paper), size, many - 1):
            return False
    return True


def gains(questions, answers, way, free=()):
    """What each question gives or takes; those whose names are free count as answered rightly."""
    def is_right(question, answer):
        return question.name in free or answer == question.right
    told = []
    for question, answer in zip(questions, answers):
        right = is_right(question, answer)
        if way == "whole":
            of_matter = [pair for pair in zip(questions, answers) if pair[0].matter == question.matter]
            right = all(is_right(*pair) for pair in of_matter)
        gain = question.marks if right else 0
        if way == "less" and answer is not None and not right:
            gain = -(question.marks // 2)
        told.append((question.name, gain))
    return told


def judged_marks(questions, answers, way, verdicts):
    """The marks of answers in the paper's order, by the verdicts that hold."""
    kept, told, free = [], [], []
    for question, answer in zip(questions, answers):
        verdict = verdicts.get(question.name)
        if verdict == ("out",):
            continue
        if verdict == ("all",):
            free.append(question.name)
        if verdict is not None and verdict[0] == "right":
            question = question.changed(right=verdict[1])
        kept.append(question)
        told.append(answer)
    return max(0, sum(gain for name, gain in gains(kept, told, way, free)))
