"""Points [40] and [41], paperkin/rowcheck.py: rows and grounds that are checked."""

import unittest

from paperkin.banks import Bank
from paperkin.errors import BadKind, BadPaper, BadWish, NoPlace, NoSuch, TooMany
from paperkin.making import fit_papers
from paperkin.rowcheck import check_row
from paperkin.rowproof import row_proof
from paperkin.rows import most_row
from paperkin.wishes import Wish
from tests import plainly
from tests.things import (
    Alike, Case, a_question, chance, deep, plain_bank, some_bank, some_names, some_wishes, strangers, wishes_of,
)
from tests.test_rows import BAD_PAPERS, a_bank

FEW = ("few",)
NONE = ("none",)
# Two of each row: papers with one of a, b, c and one of d, e.
TEXTS = ("many sums 1 1", "many past 1 1")
ROW = [("a", "d"), ("b", "e")]
BESIDE_AD = ("by", "b", FEW, ((("b", "e"), NONE),))
BESIDE_AE = ("by", "b", FEW, ((("b", "d"), NONE),))
ROWS = ((("a", "d"), BESIDE_AD), (("a", "e"), BESIDE_AE))
GROUND = ("by", "a", FEW, ROWS)


class Checked(Case):
    def lets_by(self, papers, proof, texts=TEXTS, size=2, day=0, aside=None):
        self.assertIsNone(check_row(a_bank(), wishes_of(*texts), size, papers, proof, day, aside))

    def is_bad(self, at, papers, proof, texts=TEXTS, size=2, day=0, aside=None):
        self.refused(BadPaper, at, check_row, a_bank(), wishes_of(*texts), size, papers, proof, day, aside)

    def test_what_is_told_is_let_by(self):
        self.assertEqual(most_row(a_bank(), wishes_of(*TEXTS), 2), ROW)
        self.assertEqual(row_proof(a_bank(), wishes_of(*TEXTS), 2), GROUND)
        self.lets_by(ROW, GROUND)
        self.assertIsNone(check_row(a_bank(), tuple(wishes_of(*TEXTS)), 2, ROW, GROUND))
        self.assertIsNone(check_row(
            aside=(), day=9999, proof=GROUND, papers=ROW, size=2, wishes=wishes_of(*TEXTS), bank=a_bank()))

    def test_other_rows_of_as_many(self):
        for row in (
            [("b", "e"), ("a", "d")], [("a", "e"), ("b", "d")], [("c", "e"), ("b", "d")], [("b", "d"), ("c", "e")],
        ):
            self.lets_by(row, GROUND)
        self.lets_by([("e", "f"), ("c", "d"), ("a", "b")], FEW, ())
        self.lets_by([("b", "d", "f")], FEW, (), 3, 0, ["a"])

    def test_other_grounds(self):
        beside_ad = ("by", "b", ("by", "c", FEW, ((("c", "e"), NONE),)), ((("b", "e"), NONE),))
        self.lets_by(ROW, ("by", "a", FEW, ((("a", "d"), beside_ad), ROWS[1])))
        # Where "few" and "none" are both grounds, either stands; and "by" all the way down.
        self.lets_by([], FEW, ("many 9 9",), 7)
        self.lets_by([], NONE, ("many 9 9",), 7)
        ground = FEW
        for name in "fedcba":
            ground = ("by", name, ground, ())
        self.lets_by([], ground, ("many 9 9",), 7)
        self.lets_by([], ground, ("many 9 9",), 2)
        self.lets_by([], NONE, ("many 9 9",), 2)
        self.is_bad(-1, [], FEW, ("many 9 9",), 2)
        for texts, size in ((TEXTS, 2), ((), 2), ((), 3), (("kin 1 1",), 2), (("with f 1 1",), 4)):
            bank = a_bank()
            papers = fit_papers(bank, wishes_of(*texts), size)
            row = most_row(bank, wishes_of(*texts), size)
            self.lets_by(row, plainly.by_everywhere(bank.names_in(), papers, size, len(row)), texts, size)

    def test_aside_and_out(self):
        self.lets_by([("b", "d"), ("c", "e")], FEW, TEXTS, 2, 0, ["a"])
        self.lets_by([("b", "d"), ("c", "e")], FEW, TEXTS, 2, 0, ("a", "a", "x"))
        self.lets_by([("a", "e")], ("by", "a", ("by", "b", FEW, ((("b", "e"), NONE),)), ((("a", "e"), NONE),)), TEXTS, 2, 0,
                     ["d"])
        self.lets_by([], FEW, TEXTS, 2, 0, list("abcdef"))
        self.lets_by([], NONE, TEXTS, 2, 0, list("abcdefx"))
        self.lets_by([], NONE, TEXTS, 2, 0, ["d", "e"])
        self.is_bad(-1, [], ("by", "a", NONE, ()), TEXTS, 2, 0, list("abcdef"))

    def test_the_day(self):
        texts = ("rest 5 0",)
        ground = ("by", "a", FEW, ())
        self.lets_by([("b", "c"), ("e", "f")], ground, texts, 2, 12)
        self.is_bad(-1, [("b", "c"), ("e", "f")], ground, texts, 2, 0)
        self.is_bad(1, [("b", "c"), ("a", "f")], ground, texts, 2, 12)

    def test_no_list_of_papers(self):
        for thing in strangers() + [tuple(ROW), (), ("a", "d"), Alike(), a_bank(), Wish("many"), a_question(), ROW[0]]:
            self.is_bad(None, thing, GROUND)
            self.is_bad(None, thing, None)
        for thing in list(BAD_PAPERS) + strangers():
            self.is_bad(None, [thing], GROUND)
            self.is_bad(None, ROW + [thing], GROUND)
            self.is_bad(None, [("zoo",), thing], None)

    def test_the_first_paper_that_cannot_stand(self):
        for at, papers in (
            (0, [("a", "b"), ("c", "d")]), (1, [("a", "d"), ("b", "c")]), (1, [("a", "d"), ("b", "d")]),
            (1, [("a", "d"), ("a", "d")]), (1, [("a", "d"), ("a", "e"), ("zoo",)]), (0, [("x",)]), (0, [("a", "x")]),
            (1, [("a", "d"), ("b", "zoo")]), (0, [("a",)]), (0, [("a", "b", "d")]), (2, ROW + [("c", "f")]),
            (2, ROW + [("c",), ("f",)]), (1, [("a", "d"), ("d", "e"), ("b", "e")]), (2, ROW + [("a", "d")]),
        ):
            self.is_bad(at, papers, GROUND)
            self.is_bad(at, papers, None)
        self.is_bad(0, ROW, GROUND, TEXTS, 2, 0, ["d"])
        self.is_bad(1, ROW, GROUND, TEXTS, 2, 0, ("b", "x"))
        self.is_bad(1, ROW, GROUND, TEXTS, 2, 0, ["e"])

    def test_no_ground_at_all(self):
        for thing in strangers() + [
            (), [], ["few"], ["none"], list(GROUND), ("few", ()), ("none", ()), ("FEW",), ("",), ("by",), (None,), (0,),
            (FEW,), ("by", "a", FEW), ("by", "a", FEW, ROWS, ()), ("few", "a", FEW, ROWS), ("none", "a", FEW, ROWS),
            (Alike(),), Alike(), (Alike(), "a", FEW, ROWS), ("by", Alike(), FEW, ROWS), ("by", "a", Alike(), ROWS),
            ("by", "a", FEW, Alike()), ("by", None, FEW, ROWS), ("by", ["a"], FEW, ROWS), ("by", ("a",), FEW, ROWS),
            ("by", 0, FEW, ROWS), ("by", "a", None, ROWS), ("by", "a", (), ROWS), ("by", "a", FEW, None),
            ("by", "a", "few", ROWS), ("few", "by"), "few", "none", "by", {"few": 1}, {"few"}, deep(49), a_bank(),
            (b"few",), b"few", (True,), range(1), (deep(48),), ("by", "a", deep(47), ROWS), ("by", "a", FEW, deep(47)),
        ]:
            self.is_bad(-1, ROW, thing)

    def test_a_ground_that_is_not_so(self):
        self.is_bad(-1, ROW, FEW)
        self.is_bad(-1, ROW, NONE)
        self.is_bad(-1, ROW, ("by", "a", NONE, ROWS))
        for name in ("b", "f", "x", "zoo", "", "A"):
            self.is_bad(-1, ROW, ("by", name, FEW, ROWS))
        self.is_bad(-1, ROW, ("by", "b", FEW, ((("b", "d"), FEW), (("b", "e"), FEW))))

    def test_rows_that_are_others(self):
        one, other = ROWS
        for rows in (
            (), (one,), (other,), (other, one), (one, one), (one, other, other), (one, other, (("b", "d"), NONE)),
            list(ROWS), (list(one), other), (one, list(other)), (one, ()), (one, None), (one, (("a", "e"),)),
            (one, (("a", "e"), BESIDE_AE, ())), (one, (["a", "e"], BESIDE_AE)), (one, (("e", "a"), BESIDE_AE)),
            (one, (("a", "f"), BESIDE_AE)), (one, (("b", "e"), BESIDE_AE)), (one, (("a", "e", "f"), BESIDE_AE)),
            (one, (("a",), BESIDE_AE)), (one, ("ae", BESIDE_AE)), (one, (Alike(), BESIDE_AE)),
            (one, ((Alike(), "e"), BESIDE_AE)), (one, (("a", Alike()), BESIDE_AE)), (one, Alike()),
            (one, (None, BESIDE_AE)), (("a", "d"), ("a", "e")), dict(ROWS), "ab", (one, {("a", "e"): BESIDE_AE}),
        ):
            self.is_bad(-1, ROW, ("by", "a", FEW, rows))

    def test_what_is_wrong_deep_down(self):
        one, other = ROWS
        for beside in (
            FEW, NONE, BESIDE_AD, None, (), [], list(BESIDE_AE), Alike(), ("by", "c", FEW, ((("c", "d"), NONE),)),
            ("by", "b", NONE, ((("b", "d"), NONE),)), ("by", "b", FEW, ()), ("by", "b", FEW, ((("b", "d"), FEW),)),
            ("by", "b", FEW, ((("b", "d"), ["none"]),)), ("by", "b", FEW, ((("b", "e"), NONE),)),
            ("by", "b", FEW, ((("b", "d"), NONE), (("b", "d"), NONE))), ("by", "b", FEW, [(("b", "d"), NONE)]),
            ("by", "b", FEW, ((("b", "d"), (Alike(),)),)), ("by", "b", ["few"], ((("b", "d"), NONE),)),
            ("by", "b", FEW, ((("b", "d"), ("by", "c", NONE, ((("c", "e"), NONE),))),)),
        ):
            self.is_bad(-1, ROW, ("by", "a", FEW, (one, (("a", "e"), beside))))

    def test_a_ground_of_another_many(self):
        self.is_bad(-1, ROW[:1], GROUND)
        self.is_bad(-1, [], GROUND)
        self.is_bad(-1, [], ("by", "a", FEW, ()))
        self.is_bad(-1, [("a", "b"), ("c", "d")], FEW, ())
        self.is_bad(-1, [], FEW, ())
        self.is_bad(-1, [], NONE, ())
        self.is_bad(-1, [("a", "d")], row_proof(a_bank(), wishes_of(*TEXTS), 2, 0, ["e"]))
        # Of MANY 0 no paper may have the name.
        self.is_bad(-1, [], ("by", "a", NONE, ((("a", "f"), FEW),)), ("with a 1 1", "with f 1 1"))
        self.is_bad(-1, [], ("by", "a", NONE, ((("a", "f"), NONE),)), ("with a 1 1", "with f 1 1"))
        self.is_bad(-1, [], ("by", "a", NONE, ()), ("with a 1 1", "with f 1 1"))
        self.lets_by([("a", "f")], ("by", "a", NONE, ((("a", "f"), NONE),)), ("with a 1 1", "with f 1 1"))

    def test_which_comes_first(self):
        self.is_bad(None, tuple(ROW), None)
        self.is_bad(None, [("a", "b"), None], None)
        self.is_bad(0, [("a", "b"), ("a", "d"), ("a", "d")], None)
        self.is_bad(1, [("a", "d"), ("a", "e")], FEW)
        self.is_bad(-1, [("a", "d")], None)

    def test_refused_as_most_row_ahead_of_all(self):
        for papers, proof in ((ROW, GROUND), (None, None), ([("zoo",)], ()), ([None], 5)):
            self.refused(BadKind, "Bank", check_row, None, None, 0, papers, proof, -1, 5)
            self.refused(BadKind, "list", check_row, a_bank(), None, 0, papers, proof, -1, 5)
            self.refused(BadWish, 0, check_row, a_bank(), [None], 0, papers, proof, -1, 5)
            self.refused(NoPlace, 1, check_row, a_bank(), [], 1, papers, proof, -1, 5)
            self.refused(NoPlace, -1, check_row, a_bank(), [], 2, papers, proof, -1, 5)
            self.refused(BadKind, "list", check_row, a_bank(), [], 2, papers, proof, 0, 5)
            self.refused(NoSuch, "zoo", check_row, a_bank(), [], 2, papers, proof, 0, ["zoo"])
            self.refused(TooMany, 12, check_row, plain_bank(some_names(13)), [], 2, papers, proof)

    def test_nothing_that_is_handed_in_is_changed(self):
        bank = a_bank()
        wishes = wishes_of(*TEXTS)
        papers = list(ROW)
        aside = ["x"]
        check_row(bank, wishes, 2, papers, GROUND, 0, aside)
        self.refused(BadPaper, -1, check_row, bank, wishes, 2, papers, FEW, 0, aside)
        self.assertEqual((bank, wishes, papers, aside), (a_bank(), wishes_of(*TEXTS), ROW, ["x"]))


def places(ground):
    """All ways by which something within a ground is come to."""
    yield ()
    if isinstance(ground, tuple):
        for at, each in enumerate(ground):
            for way in places(each):
                yield (at,) + way


def put_at(ground, way, change):
    """A ground with what stands at the end of a way changed."""
    if not way:
        return change(ground)
    return ground[:way[0]] + (put_at(ground[way[0]], way[1:], change),) + ground[way[0] + 1:]


CHANGES = (
    lambda thing: FEW, lambda thing: NONE, lambda thing: (), lambda thing: None, lambda thing: "few", lambda thing: "b",
    lambda thing: list(thing) if isinstance(thing, tuple) else [thing],
    lambda thing: thing[:-1], lambda thing: thing + thing[-1:], lambda thing: thing[::-1], lambda thing: (thing,),
    lambda thing: Alike(),
)


class AgainstThePlainest(Case):
    def judged(self, bank, wishes, size, papers, proof, day, aside):
        names = plainly.names_left(bank, aside)
        fits = plainly.fits(bank, wishes, size, day, names)
        gone = set()
        for number, paper in enumerate(papers):
            if paper not in fits or gone & set(paper):
                return number
            gone |= set(paper)
        return None if plainly.is_ground(proof, names, fits, size, len(papers)) else -1

    def asked(self, *told):
        at = self.judged(*told)
        if at is None:
            self.assertIsNone(check_row(*told))
        else:
            self.refused(BadPaper, at, check_row, *told)
        return at

    def test_many_banks(self):
        numbers = chance(42)
        found = []
        for _ in range(120):
            bank = some_bank(numbers, 7)
            wishes = some_wishes(numbers, 2)
            size = numbers.randint(2, 3)
            day = numbers.randint(0, 25)
            aside = numbers.choice((None, None, [name for name in bank.names() if numbers.randint(0, 5) == 0]))
            row = most_row(bank, wishes, size, day, aside)
            told = row_proof(bank, wishes, size, day, aside)
            papers = plainly.fits(bank, wishes, size, day, plainly.names_left(bank, aside))
            long = plainly.by_everywhere(plainly.names_left(bank, aside), papers, size, len(row))
            for ground in (told, long):
                self.assertIsNone(check_row(bank, wishes, size, row, ground, day, aside))
                self.assertIsNone(check_row(bank, wishes, size, row[::-1], ground, day, aside))
                ways = list(places(ground))
                for _ in range(15):
                    changed = put_at(ground, numbers.choice(ways), numbers.choice(CHANGES))
                    found.append(self.asked(bank, wishes, size, row, changed, day, aside))
                for other in (row[1:], row + row[:1], papers[-1:], papers[:2], papers[-2:]):
                    found.append(self.asked(bank, wishes, size, other, ground, day, aside))
        self.assertGreater(found.count(None), 50)
        self.assertGreater(found.count(-1), 500)
        self.assertGreater(len(found) - found.count(None) - found.count(-1), 50)

    def test_at_the_bounds(self):
        names = some_names(12)
        bank = Bank([a_question(name, "sums" if at < 7 else "past") for at, name in enumerate(names)])
        for size in (2, 3, 4, 6):
            for texts in ((), ("many sums 1 2",), ("many sums 1 1", "with aa 0 0")):
                wishes = wishes_of(*texts)
                row = most_row(bank, wishes, size)
                self.assertIsNone(check_row(bank, wishes, size, row, row_proof(bank, wishes, size)))
                self.refused(BadPaper, -1, check_row, bank, wishes, size, row[1:], row_proof(bank, wishes, size))
        # As long as a ground can be.
        ground = plainly.by_everywhere(names, fit_papers(bank, wishes_of("many sums 1 1"), 2), 2, 5)
        self.assertIsNone(check_row(bank, wishes_of("many sums 1 1"), 2, most_row(bank, wishes_of("many sums 1 1"), 2),
                                    ground))


if __name__ == "__main__":
    unittest.main()
