"""Point [20], paperkin/papers.py: papers, and whether they are ready."""

import unittest

from paperkin.banks import Bank
from paperkin.errors import BadKind, BadPaper
from paperkin.papers import is_paper, need_ready, paper_of, questions_of, shared
from paperkin.words import is_name
from tests.things import Alike, a_question, no_texts, some_names, strangers

NO_PAPERS = (
    (), ("b", "a"), ("a", "a"), ("a", "b", "b"), ("a", "c", "b"), ["a"], ["a", "b"], ("a", ""), ("", "a"), ("A",),
    ("a", "b1"), ("a", "abcdefghi"), ("a", 1), (1,), (None,), ("a", None), ("a", ["b"]), (("a",),), ("a", True),
    ("a ", "b"), ("a", "b\n"), "a", "ab", {"a": 1}, {"a"}, (b"a",), ([],), ({}, {}), [],
)


def a_bank():
    bank = Bank([a_question(name, kin="k") for name in ("a", "b", "c", "d", "e")])
    bank.taken_out("b")
    bank.taken_out("d", "bad")
    return bank


class Case(unittest.TestCase):
    def refused(self, at, deed, *told):
        with self.assertRaises(BadPaper, msg=repr(told)[:80]) as caught:
            deed(*told)
        self.assertEqual(caught.exception.at, at)

    def no_bank(self, deed, *told):
        with self.assertRaises(BadKind) as caught:
            deed(*told)
        self.assertEqual(caught.exception.wanted, "Bank")


class IsPaper(Case):
    def test_papers(self):
        for thing in (("a",), ("abcdefgh",), ("a", "b"), ("a", "aa", "ab", "b"), tuple(some_names(39)),
                      tuple(some_names(40))):
            self.assertIs(is_paper(thing), True)
        self.assertIs(is_paper(thing=("a",)), True)

    def test_no_papers(self):
        for thing in list(NO_PAPERS) + [tuple(some_names(41)), list(some_names(40)), tuple(some_names(60))]:
            self.assertIs(is_paper(thing), False)
        names = some_names(40)
        names[38], names[39] = names[39], names[38]
        self.assertIs(is_paper(tuple(names)), False)

    def test_of_anything(self):
        for thing in strangers() + [a_question(), a_bank(), range(2)]:
            self.assertIs(is_paper(thing), False)
            self.assertIs(is_paper((thing,)), thing == "adds")
        for thing in no_texts():
            self.assertIs(is_paper(("a", thing)), False)


class Ready(Case):
    def test_ready(self):
        for paper in (("a",), ("a", "c"), ("a", "c", "e"), ("e",)):
            self.assertIsNone(need_ready(a_bank(), paper))
        self.assertIsNone(need_ready(paper=("a",), bank=a_bank()))
        bank = a_bank()
        bank.put_back("b")
        self.assertIsNone(need_ready(bank, ("a", "b")))
        forty = some_names(40)
        self.assertIsNone(need_ready(Bank([a_question(name) for name in forty]), tuple(forty)))

    def test_the_first_name_that_is_not(self):
        for paper, at in (
            (("a", "b"), "b"), (("b",), "b"), (("a", "b", "d", "x"), "b"), (("a", "c", "d", "x"), "d"),
            (("a", "aa", "b"), "aa"), (("x",), "x"), (("a", "c", "e", "x", "y"), "x"),
        ):
            for deed in (need_ready, questions_of):
                self.refused(at, deed, a_bank(), paper)
        bank = a_bank()
        bank.dropped("a")
        self.refused("a", need_ready, bank, ("a", "b"))

    def test_of_no_paper(self):
        for thing in list(NO_PAPERS) + strangers() + [tuple(some_names(41)), ("x", "b"), ["b"], a_bank()]:
            for deed in (need_ready, questions_of):
                self.refused(None, deed, a_bank(), thing)
                self.refused(None, deed, Bank(), thing)

    def test_of_what_stands_among_names(self):
        for thing in strangers() + no_texts() + [[], (), ["a"], Alike(), "", "A", "a" * 9]:
            if is_name(thing):
                continue
            for paper in ((thing,), ("a", thing), ("a", "b", thing), (thing, "x"), ("x", thing)):
                self.refused(None, need_ready, a_bank(), paper)
        for paper in (("a", "a"), ("c", "a"), ("a", "c", "c"), ("a", "e", "c"), ("x", "x"), ("b", "a")):
            self.refused(None, need_ready, a_bank(), paper)

    def test_of_no_bank(self):
        for thing in strangers() + [[], (), a_question(), [a_bank()]]:
            for deed in (need_ready, questions_of):
                self.no_bank(deed, thing, ("a",))
                self.no_bank(deed, thing, None)
                self.no_bank(deed, thing, ())

    def test_the_bank_stays(self):
        bank = a_bank()
        need_ready(bank, ("a", "c"))
        questions_of(bank, ("a", "c"))
        self.refused("b", need_ready, bank, ("a", "b"))
        self.assertEqual(bank, a_bank())


class PaperOf(Case):
    def test_of_a_list_or_tuple(self):
        for names, paper in (
            (["a"], ("a",)), (("a",), ("a",)), (["c", "a", "b"], ("a", "b", "c")), (("b", "a"), ("a", "b")),
            (["b", "aa", "a"], ("a", "aa", "b")), (some_names(40)[::-1], tuple(some_names(40))),
        ):
            before = list(names)
            told = paper_of(names)
            self.assertEqual(told, paper)
            self.assertIsInstance(told, tuple)
            self.assertIs(is_paper(told), True)
            self.assertEqual(list(names), before)
        self.assertEqual(paper_of(names=["b", "a"]), ("a", "b"))

    def test_of_no_names(self):
        for thing in strangers() + [a_question(), a_bank(), range(0)]:
            self.refused(None, paper_of, thing)
        for thing in no_texts() + ["", "A", "a b", "abcdefghi"]:
            self.refused(None, paper_of, [thing])
            self.refused(None, paper_of, ("a", thing))
        for thing in ([], (), some_names(41), tuple(some_names(41))):
            self.refused(None, paper_of, thing)

    def test_told_ahead_already(self):
        for names, at in (
            (["a", "a"], "a"), (("b", "a", "b"), "b"), (["b", "a", "a", "b"], "a"), (["a", "b", "b", "a"], "b"),
            (["c", "c", "a", "a"], "c"),
        ):
            self.refused(at, paper_of, names)
        self.refused(None, paper_of, ["a", "a", 5])
        self.refused(None, paper_of, ["a", "a", "A"])


class Questions(Case):
    def test_in_order(self):
        bank = Bank([a_question("c", toil=1), a_question("a", toil=2), a_question("b", toil=3)])
        told = questions_of(bank, ("a", "b", "c"))
        self.assertIsInstance(told, list)
        self.assertEqual(told, [a_question("a", toil=2), a_question("b", toil=3), a_question("c", toil=1)])
        self.assertEqual(questions_of(paper=("c",), bank=bank), [a_question("c", toil=1)])

    def test_the_list_is_the_askers_own(self):
        bank = Bank([a_question("a"), a_question("b")])
        told = questions_of(bank, ("a", "b"))
        bank.put(a_question("a", "other"))
        bank.dropped("b")
        self.assertEqual(told, [a_question("a"), a_question("b")])
        told.clear()
        self.assertEqual(bank.names(), ["a"])


class Shared(Case):
    def test_names_in_both(self):
        for one, other, told in (
            (("a",), ("a",), ["a"]), (("a",), ("b",), []), (("a", "b", "c"), ("b", "c", "d"), ["b", "c"]),
            (("a", "b", "c", "d"), ("d",), ["d"]), (tuple(some_names(40)), ("aa", "zz"), ["aa"]),
        ):
            self.assertEqual(shared(one, other), told)
            self.assertEqual(shared(other, one), told)
            self.assertEqual(shared(other=other, one=one), told)

    def test_of_no_paper(self):
        for thing in list(NO_PAPERS) + strangers() + [tuple(some_names(41))]:
            self.refused(None, shared, thing, ("a",))
            self.refused(None, shared, ("a",), thing)
            self.refused(None, shared, thing, thing)


if __name__ == "__main__":
    unittest.main()
