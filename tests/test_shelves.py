"""Point [43], paperkin/shelves.py: shelves, and the papers taken from them."""

import unittest

from paperkin.banks import Bank
from paperkin.errors import BadKind, BadPaper, BadWish, Gone, NoPlace, TooMany
from paperkin.making import fit_papers
from paperkin.rowcheck import check_row
from paperkin.rowproof import row_proof
from paperkin.rows import are_apart, left_over, most_row
from paperkin.shelves import Shelf
from paperkin.wishes import Wish
from tests import plainly
from tests.things import (
    Alike, Case, a_question, chance, no_whole_numbers, plain_bank, some_bank, some_names, some_wishes, strangers,
    wishes_of,
)
from tests.test_rows import BAD_PAPERS, a_bank

# Papers with one of a, b, c and one of d, e: two of them at most.
TEXTS = ("many sums 1 1", "many past 1 1")


def a_shelf(*texts, size=2, day=0):
    return Shelf(a_bank(), wishes_of(*texts), size, day)


def told_of(shelf):
    """All that a shelf tells."""
    return (shelf.taken_now(), shelf.names_left(), shelf.row_more(), shelf.proof_more(), len(shelf), str(shelf),
            repr(shelf))


class Made(Case):
    def test_new(self):
        shelf = a_shelf(*TEXTS)
        self.assertEqual(shelf.taken_now(), [])
        self.assertEqual(shelf.names_left(), list("abcdef"))
        self.assertEqual(shelf.row_more(), [("a", "d"), ("b", "e")])
        self.assertEqual(shelf.proof_more(), row_proof(a_bank(), wishes_of(*TEXTS), 2))
        self.assertEqual(len(shelf), 0)
        self.assertIs(bool(shelf), False)
        self.assertEqual(Shelf(day=0, size=2, wishes=tuple(wishes_of(*TEXTS)), bank=a_bank()), shelf)

    def test_the_day(self):
        wishes = [Wish("rest", "", 5, 0)]
        self.assertEqual(Shelf(a_bank(), wishes, 2).row_more(), [("a", "b"), ("c", "d"), ("e", "f")])
        shelf = Shelf(a_bank(), wishes, 2, 12)
        self.assertEqual(shelf.row_more(), [("b", "c"), ("e", "f")])
        self.assertEqual(shelf.names_left(), list("abcdef"))
        self.refused(BadPaper, -1, shelf.takes_paper, ("a", "b"))
        self.assertEqual(shelf.takes_row(), [("b", "c"), ("e", "f")])

    def test_of_an_empty_bank(self):
        shelf = Shelf(Bank(), [], 2)
        self.assertEqual(told_of(shelf), ([], [], [], ("few",), 0, "", "Shelf(2, 0)"))
        self.assertEqual(shelf.takes_row(), [])
        with self.assertRaises(Gone):
            shelf.takes_paper()

    def test_refused_as_most_row(self):
        for thing in strangers() + [[], (), [a_bank()], a_question(), Alike()]:
            self.refused(BadKind, "Bank", Shelf, thing, [], 2, 0)
            self.refused(BadKind, "Bank", Shelf, thing, None, None, None)
        for thing in strangers() + [a_bank(), Wish("many"), Alike()]:
            self.refused(BadKind, "list", Shelf, a_bank(), thing, 2, 0)
            self.refused(BadKind, "list", Shelf, a_bank(), thing, 1, -1)
        self.refused(BadWish, 1, Shelf, a_bank(), [Wish("many"), None], 1, -1)
        self.refused(BadWish, 12, Shelf, a_bank(), [Wish("many")] * 13, 2)
        for thing in [0, 1, 13, 14, -1, 10 ** 3999, Alike()] + no_whole_numbers():
            self.refused(NoPlace, thing, Shelf, a_bank(), [], thing)
            self.refused(NoPlace, thing, Shelf, plain_bank(some_names(13)), [], thing, -1)
        for thing in [-1, 10000, 10 ** 3999, Alike()] + no_whole_numbers():
            self.refused(NoPlace, thing, Shelf, a_bank(), [], 2, thing)
            self.refused(NoPlace, thing, Shelf, plain_bank(some_names(13)), [], 12, thing)
        self.refused(TooMany, 12, Shelf, plain_bank(some_names(13)), [], 2, 0)
        self.refused(TooMany, 12, Shelf, plain_bank(some_names(60)), [Wish("many")] * 12, 12, 9999)
        for size in (2, 12):
            Shelf(plain_bank(some_names(12)), [Wish("many")] * 12, size, 9999)


class AsItWas(Case):
    def test_the_bank_as_it_was(self):
        bank = a_bank()
        shelf = Shelf(bank, wishes_of(*TEXTS), 2, 11)
        before = told_of(shelf)
        other = Shelf(a_bank(), wishes_of(*TEXTS), 2, 11)
        for name in bank.names():
            bank.put(a_question(name, "other", 9, 9))
            bank.used_on(name, 11)
        bank.taken_out("a")
        bank.put_back("x")
        bank.added(a_question("g", "sums"))
        bank.dropped("d")
        self.assertEqual(told_of(shelf), before)
        self.assertEqual(shelf, other)
        self.assertEqual(shelf.takes_paper(("a", "d")), ("a", "d"))
        self.assertEqual(shelf.takes_paper(), ("b", "e"))

    def test_the_bank_is_not_changed_by_the_shelf(self):
        bank = a_bank()
        shelf = Shelf(bank, wishes_of(*TEXTS), 2)
        shelf.takes_row()
        shelf.gives_back(("a", "d"))
        shelf.proof_more()
        self.assertEqual(bank, a_bank())

    def test_the_wishes_are_not_kept_as_they_are(self):
        wishes = wishes_of(*TEXTS)
        shelf = Shelf(a_bank(), wishes, 2)
        wishes.clear()
        self.assertEqual(shelf.row_more(), [("a", "d"), ("b", "e")])
        self.assertEqual(shelf, a_shelf(*TEXTS))
        self.assertEqual(shelf.shelf_twin().row_more(), [("a", "d"), ("b", "e")])

    def test_what_is_told_is_the_askers_own(self):
        shelf = a_shelf(*TEXTS)
        taken = shelf.taken_now()
        left = shelf.names_left()
        more = shelf.row_more()
        row = shelf.takes_row()
        self.assertEqual((taken, left, more), ([], list("abcdef"), [("a", "d"), ("b", "e")]))
        later = shelf.taken_now()
        for each in (taken, left, more, row, later):
            each.append("zoo")
            each.reverse()
        self.assertEqual(shelf.taken_now(), [("a", "d"), ("b", "e")])
        self.assertEqual(shelf.names_left(), ["c", "f"])
        self.assertEqual(shelf.row_more(), [])
        shelf.gives_back(("a", "d"))
        self.assertEqual(row, ["zoo", ("b", "e"), ("a", "d")])


class TakesPaper(Case):
    def test_without_one_the_first_of_more(self):
        shelf = a_shelf(*TEXTS)
        self.assertEqual(shelf.takes_paper(), ("a", "d"))
        self.assertEqual(shelf.taken_now(), [("a", "d")])
        self.assertEqual(shelf.names_left(), list("bcef"))
        self.assertEqual(shelf.row_more(), [("b", "e")])
        self.assertEqual(shelf.takes_paper(None), ("b", "e"))
        self.assertEqual(shelf.taken_now(), [("a", "d"), ("b", "e")])
        before = told_of(shelf)
        for told in ((), (None,)):
            with self.assertRaises(Gone):
                shelf.takes_paper(*told)
        self.assertEqual(told_of(shelf), before)

    def test_that_one(self):
        shelf = a_shelf(*TEXTS)
        self.assertEqual(shelf.takes_paper(("c", "d")), ("c", "d"))
        self.assertEqual(shelf.takes_paper(paper=("a", "e")), ("a", "e"))
        self.assertEqual(shelf.taken_now(), [("c", "d"), ("a", "e")])
        self.assertEqual(shelf.names_left(), ["b", "f"])
        self.assertEqual(len(shelf), 2)

    def test_one_that_is_not_of_more(self):
        shelf = a_shelf()
        shelf.takes_paper(("b", "e"))
        self.assertEqual(shelf.row_more(), [("a", "c"), ("d", "f")])

    def test_no_paper(self):
        shelf = a_shelf(*TEXTS)
        before = told_of(shelf)
        for thing in [each for each in strangers() if each is not None] + list(BAD_PAPERS) + [
            ["a", "d"], ("d", "a"), ("a", "d", "d"), a_bank(), shelf, Alike(), (Alike(), "d"), [("a", "d")],
        ]:
            self.refused(BadPaper, None, shelf.takes_paper, thing)
            self.refused(BadPaper, None, shelf.lost_by, thing)
            self.refused(BadPaper, None, shelf.gives_back, thing)
        self.refused(BadPaper, None, shelf.lost_by, None)
        self.refused(BadPaper, None, shelf.gives_back, None)
        self.assertEqual(told_of(shelf), before)

    def test_the_first_name_that_is_not_left(self):
        shelf = a_shelf(*TEXTS)
        shelf.takes_paper(("a", "d"))
        before = told_of(shelf)
        for at, paper in (
            ("a", ("a", "d")), ("a", ("a", "e")), ("d", ("b", "d")), ("d", ("d", "x")), ("x", ("b", "x")),
            ("zoo", ("b", "e", "zoo")), ("aa", ("aa", "b")), ("a", ("a",)), ("d", ("b", "c", "d", "zoo")),
            ("x", ("b", "x", "zoo")),
        ):
            self.refused(BadPaper, at, shelf.takes_paper, paper)
            self.refused(BadPaper, at, shelf.lost_by, paper)
        self.assertEqual(told_of(shelf), before)

    def test_one_that_does_not_fit(self):
        shelf = a_shelf(*TEXTS)
        shelf.takes_paper(("a", "d"))
        before = told_of(shelf)
        for paper in (("b", "c"), ("b", "f"), ("e", "f"), ("b",), ("b", "c", "e"), ("e",)):
            self.refused(BadPaper, -1, shelf.takes_paper, paper)
            self.refused(BadPaper, -1, shelf.lost_by, paper)
        self.assertEqual(told_of(shelf), before)


class TakesRow(Case):
    def test_all_of_more(self):
        shelf = a_shelf()
        row = shelf.takes_row()
        self.assertEqual(row, [("a", "b"), ("c", "d"), ("e", "f")])
        self.assertIsInstance(row, list)
        self.assertEqual(shelf.taken_now(), row)
        self.assertEqual(told_of(shelf)[1:5], ([], [], ("few",), 3))
        self.assertEqual(shelf.takes_row(), [])
        self.assertEqual(shelf.taken_now(), row)

    def test_behind_one_that_is_taken(self):
        shelf = a_shelf()
        shelf.takes_paper(("b", "c"))
        self.assertEqual(shelf.takes_row(), [("a", "d"), ("e", "f")])
        self.assertEqual(shelf.taken_now(), [("b", "c"), ("a", "d"), ("e", "f")])


class GivesBack(Case):
    def test_in_several_orders(self):
        shelf = a_shelf()
        shelf.takes_row()
        self.assertIsNone(shelf.gives_back(("c", "d")))
        self.assertEqual(shelf.taken_now(), [("a", "b"), ("e", "f")])
        self.assertEqual(shelf.names_left(), ["c", "d"])
        self.assertEqual(shelf.takes_paper(), ("c", "d"))
        self.assertEqual(shelf.taken_now(), [("a", "b"), ("e", "f"), ("c", "d")])
        shelf.gives_back(paper=("a", "b"))
        shelf.gives_back(("c", "d"))
        self.assertEqual(shelf.row_more(), [("a", "b"), ("c", "d")])
        self.assertEqual(shelf.takes_paper(("a", "d")), ("a", "d"))
        self.assertEqual(shelf.taken_now(), [("e", "f"), ("a", "d")])
        shelf.gives_back(("e", "f"))
        shelf.gives_back(("a", "d"))
        self.assertEqual(shelf, a_shelf())

    def test_one_that_is_not_taken(self):
        shelf = a_shelf(*TEXTS)
        shelf.takes_paper(("a", "d"))
        before = told_of(shelf)
        for paper in (("a", "e"), ("b", "e"), ("a",), ("zoo",), ("a", "d", "e"), ("x",), ("d",)):
            with self.assertRaises(Gone):
                shelf.gives_back(paper)
        self.assertEqual(told_of(shelf), before)
        shelf.gives_back(("a", "d"))
        with self.assertRaises(Gone):
            shelf.gives_back(("a", "d"))


class LostBy(Case):
    def test_lost(self):
        shelf = a_shelf()
        for paper in (("a", "b"), ("b", "e"), ("e", "f")):
            self.assertEqual(shelf.lost_by(paper), 0)
        self.assertEqual(shelf.lost_by(paper=("a", "f")), 0)
        shelf = a_shelf("many past 1 2")
        self.assertEqual(shelf.row_more(), [("a", "d"), ("b", "e")])
        self.assertEqual(shelf.lost_by(("d", "e")), 1)
        self.assertEqual(shelf.lost_by(("c", "e")), 0)
        shelf.takes_paper(("c", "d"))
        self.assertEqual(shelf.lost_by(("e", "f")), 0)
        self.refused(BadPaper, "d", shelf.lost_by, ("d", "e"))

    def test_more_than_one(self):
        # ("a", "b", "c") takes a name from each of three that could be taken.
        bank = Bank([a_question(name, "sums", toil) for name, toil in zip("abcdefghi", (2, 2, 2, 7, 7, 7, 7, 7, 7))])
        shelf = Shelf(bank, wishes_of("many 3 3", "toil 6 16"), 3)
        self.assertEqual(shelf.row_more(), [("a", "d", "e"), ("b", "f", "g"), ("c", "h", "i")])
        self.assertEqual(shelf.lost_by(("a", "b", "c")), 2)
        self.assertEqual(shelf.lost_by(("a", "b", "d")), 1)
        self.assertEqual(shelf.lost_by(("a", "d", "i")), 0)
        self.assertEqual(shelf.taken_now(), [])

    def test_it_changes_nothing(self):
        shelf = a_shelf("many past 1 2")
        before = told_of(shelf)
        shelf.lost_by(("d", "e"))
        self.assertEqual(told_of(shelf), before)


class Twin(Case):
    def test_it_goes_on_by_itself(self):
        shelf = a_shelf()
        shelf.takes_paper(("b", "c"))
        twin = shelf.shelf_twin()
        self.assertIsInstance(twin, Shelf)
        self.assertEqual(twin, shelf)
        self.assertEqual(told_of(twin), told_of(shelf))
        twin.takes_row()
        self.assertEqual(shelf.taken_now(), [("b", "c")])
        self.assertNotEqual(twin, shelf)
        shelf.gives_back(("b", "c"))
        self.assertEqual(twin.taken_now(), [("b", "c"), ("a", "d"), ("e", "f")])
        self.assertEqual(shelf, a_shelf())
        twin.gives_back(("a", "d"))
        self.assertEqual(shelf.takes_paper(), ("a", "b"))
        self.assertEqual(twin.taken_now(), [("b", "c"), ("e", "f")])

    def test_the_day_and_the_size_go_along(self):
        shelf = Shelf(a_bank(), [Wish("rest", "", 5, 0)], 3, 12)
        self.assertEqual(shelf.shelf_twin(), shelf)
        self.assertEqual(told_of(shelf.shelf_twin()), told_of(shelf))


class Equal(Case):
    def unlike(self, one, other):
        self.assertFalse(one == other)
        self.assertTrue(one != other)

    def alike(self, one, other):
        self.assertTrue(one == other)
        self.assertFalse(one != other)

    def test_led_otherwise_to_the_same(self):
        one = a_shelf(*TEXTS)
        one.takes_row()
        other = a_shelf(*TEXTS)
        other.takes_paper(("c", "d"))
        self.unlike(one, other)
        other.gives_back(("c", "d"))
        self.unlike(one, other)
        other.takes_paper()
        other.takes_paper(("b", "e"))
        self.alike(one, other)
        self.alike(other, one)

    def test_wishes_in_a_list_and_a_tuple(self):
        self.alike(Shelf(a_bank(), wishes_of(*TEXTS), 2), Shelf(a_bank(), tuple(wishes_of(*TEXTS)), 2))
        self.alike(Shelf(a_bank(), [], 2), Shelf(a_bank(), (), 2))

    def test_unlike(self):
        one = a_shelf(*TEXTS)
        self.unlike(one, a_shelf(*TEXTS[::-1]))
        self.unlike(one, a_shelf(TEXTS[0]))
        self.unlike(one, a_shelf(*TEXTS, TEXTS[0]))
        self.unlike(one, a_shelf(*TEXTS, size=3))
        self.unlike(one, a_shelf(*TEXTS, day=1))
        bank = a_bank()
        bank.used_on("x", 5)
        self.unlike(one, Shelf(bank, wishes_of(*TEXTS), 2))
        bank = a_bank()
        bank.taken_out("x", "other")
        self.unlike(one, Shelf(bank, wishes_of(*TEXTS), 2))

    def test_the_order_of_taking(self):
        one = a_shelf()
        other = a_shelf()
        one.takes_paper(("a", "b"))
        one.takes_paper(("c", "d"))
        other.takes_paper(("c", "d"))
        other.takes_paper(("a", "b"))
        self.unlike(one, other)
        other.gives_back(("c", "d"))
        other.takes_paper(("c", "d"))
        self.alike(one, other)

    def test_to_what_is_no_shelf(self):
        shelf = a_shelf()
        for thing in strangers() + [[], (), a_bank(), a_question(), Wish("many"), range(0)]:
            self.unlike(shelf, thing)
            self.unlike(thing, shelf)


class Shown(Case):
    def test_length_truth_and_texts(self):
        shelf = a_shelf(size=3)
        self.assertEqual((len(shelf), bool(shelf), str(shelf), repr(shelf)), (0, False, "", "Shelf(3, 0)"))
        shelf.takes_paper(("b", "d", "f"))
        self.assertEqual((len(shelf), bool(shelf), str(shelf), repr(shelf)), (1, True, "b d f", "Shelf(3, 1)"))
        shelf.takes_paper()
        self.assertEqual((len(shelf), bool(shelf), str(shelf), repr(shelf)),
                         (2, True, "b d f\na c e", "Shelf(3, 2)"))
        shelf.gives_back(("b", "d", "f"))
        self.assertEqual((len(shelf), str(shelf), repr(shelf)), (1, "a c e", "Shelf(3, 1)"))
        self.assertEqual(repr(a_shelf(size=12)), "Shelf(12, 0)")


class AgainstThePlainest(Case):
    def told(self, shelf, bank, wishes, size, day):
        """What a shelf tells is what the bank tells with the names taken aside."""
        taken = shelf.taken_now()
        gone = [name for paper in taken for name in paper]
        self.assertIs(are_apart(taken), True)
        self.assertEqual(shelf.names_left(), left_over(bank, taken))
        row = plainly.most_row(bank, wishes, size, day, gone)
        self.assertEqual(shelf.row_more(), row)
        self.assertEqual(shelf.row_more(), most_row(bank, wishes, size, day, gone))
        self.assertEqual(shelf.proof_more(), row_proof(bank, wishes, size, day, gone))
        self.assertIsNone(check_row(bank, wishes, size, row, shelf.proof_more(), day, gone))
        for paper in fit_papers(bank, wishes, size, day):
            if not set(paper) & set(gone):
                after = len(plainly.most_row(bank, wishes, size, day, gone + list(paper)))
                self.assertEqual(shelf.lost_by(paper), len(row) - 1 - after)

    def test_many_banks(self):
        numbers = chance(43)
        for _ in range(60):
            bank = some_bank(numbers, 8)
            wishes = some_wishes(numbers, 2)
            size = numbers.randint(2, 3)
            day = numbers.randint(0, 25)
            shelf = Shelf(bank, wishes, size, day)
            taken = []
            for _ in range(6):
                self.told(shelf, bank, wishes, size, day)
                deed = numbers.choice(("one", "next", "row", "back"))
                papers = plainly.fits(bank, wishes, size, day, shelf.names_left())
                if deed == "one" and papers:
                    taken.append(shelf.takes_paper(numbers.choice(papers)))
                elif deed == "next" and papers:
                    taken.append(shelf.takes_paper())
                elif deed == "row":
                    taken.extend(shelf.takes_row())
                elif taken:
                    paper = numbers.choice(taken)
                    taken.remove(paper)
                    shelf.gives_back(paper)
                self.assertEqual(shelf.taken_now(), taken)
                self.assertEqual(shelf.shelf_twin(), shelf)


class AtTheBounds(Case):
    def test_twelve_in(self):
        names = some_names(12)
        bank = Bank([a_question(name, "sums" if at < 7 else "past") for at, name in enumerate(names)])
        for size in range(2, 13):
            for texts in ((), ("many 13 13",), ("many sums 1 2",)):
                shelf = Shelf(bank, wishes_of(*texts), size)
                row = shelf.row_more()
                self.assertIsNone(check_row(bank, wishes_of(*texts), size, row, shelf.proof_more()))
                for paper in row:
                    self.assertEqual(shelf.lost_by(paper), 0)
                    self.assertEqual(shelf.takes_paper(), paper)
                self.assertEqual(shelf.row_more(), [])
                self.assertEqual(len(shelf), len(row))


if __name__ == "__main__":
    unittest.main()
