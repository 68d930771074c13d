"""Point [10], paperkin/banks.py: banks and their deeds."""

import unittest

from paperkin.banks import Bank, need_bank
from paperkin.errors import BadKind, BadText, Gone, NoPlace, NoSuch, TooMany, Twice
from tests.things import a_question, no_texts, no_whole_numbers, some_names, strangers


def questions(*names):
    return [a_question(name) for name in names]


def all_of(bank):
    """All that a bank tells of itself."""
    return (
        bank.names(), bank.names_in(), bank.outs(), bank.matters(), len(bank), bank.found(),
        [bank.question(name) for name in bank.names()], [bank.days_of(name) for name in bank.names()],
        [bank.last_day(name) for name in bank.names()],
    )


def a_bank():
    bank = Bank([
        a_question("mul", "sums", 7), a_question("adds", "sums", 3, kin="k"), a_question("dates", "past", 9),
        a_question("kings", "past", 1, kin="k"), a_question("seas", "earth", 5),
    ])
    bank.taken_out("kings", "no king")
    bank.used_on("adds", 9)
    bank.used_on("adds", 4)
    bank.used_on("kings", 7)
    return bank


class Case(unittest.TestCase):
    def refused(self, error, field, value, deed, *told, **more):
        with self.assertRaises(error) as caught:
            deed(*told, **more)
        self.assertIs(caught.exception.__class__, error)
        if field:
            self.assertEqual(getattr(caught.exception, field), value)

    def no_such(self, thing, deed, *more):
        with self.assertRaises(NoSuch) as caught:
            deed(thing, *more)
        self.assertIs(caught.exception.name, thing)


class Made(Case):
    def test_of_none(self):
        for bank in (Bank(), Bank(None), Bank([]), Bank(()), Bank(questions=None), Bank(questions=[])):
            self.assertEqual(all_of(bank), ([], [], [], {}, 0, [], [], [], []))
            self.assertEqual(bank, Bank())

    def test_of_a_list_and_of_a_tuple(self):
        told = questions("b", "c", "a")
        for bank in (Bank(told), Bank(tuple(told)), Bank(questions=told)):
            self.assertEqual(bank.names(), ["a", "b", "c"])
            self.assertEqual(bank.names_in(), ["a", "b", "c"])
            self.assertEqual(bank.outs(), [])
            self.assertEqual([bank.days_of(name) for name in bank.names()], [[], [], []])
            self.assertEqual(len(bank), 3)
        self.assertEqual(told, questions("b", "c", "a"))

    def test_of_what_is_neither(self):
        for thing in strangers() + [a_question(), a_bank(), range(0)]:
            if thing is not None:
                self.refused(BadKind, "wanted", "list", Bank, thing)

    def test_of_what_is_no_question(self):
        for thing in strangers() + [[], (), [a_question()], Bank()]:
            self.refused(BadKind, "wanted", "Question", Bank, [thing])
            self.refused(BadKind, "wanted", "Question", Bank, (a_question(), thing))

    def test_one_by_one(self):
        one = a_question("a")
        self.refused(Twice, "name", "a", Bank, [one, one])
        self.refused(Twice, "name", "a", Bank, [one, a_question("a", "other"), None])
        self.refused(BadKind, "wanted", "Question", Bank, [one, None, one])
        sixty = [a_question(name) for name in some_names(60)]
        more = a_question("zzz")
        self.assertEqual(len(Bank(sixty)), 60)
        self.refused(TooMany, "most", 60, Bank, sixty + [more])
        self.refused(TooMany, "most", 60, Bank, tuple(sixty + [more, None]))
        self.refused(BadKind, "wanted", "Question", Bank, sixty + [None, more])
        self.refused(Twice, "name", sixty[59].name, Bank, sixty + [sixty[59], more])

    def test_the_list_is_not_kept(self):
        told = questions("a", "b")
        bank = Bank(told)
        told.append(a_question("c"))
        told[0] = a_question("d")
        self.assertEqual(bank.names(), ["a", "b"])
        bank.added(a_question("e"))
        bank.dropped("a")
        self.assertEqual([each.name for each in told], ["d", "b", "c"])


class Added(Case):
    def test_one_by_one(self):
        bank = Bank()
        for many, name in enumerate(["c", "a", "b"]):
            self.assertEqual(len(bank), many)
            self.assertIsNone(bank.added(a_question(name)))
        self.assertEqual(bank.names(), ["a", "b", "c"])
        self.assertIsNone(bank.added(question=a_question("d")))
        self.assertEqual(bank.question("d"), a_question("d"))

    def test_one_again(self):
        bank = Bank(questions("a", "b"))
        before = all_of(bank)
        self.refused(Twice, "name", "a", bank.added, a_question("a"))
        self.refused(Twice, "name", "a", bank.added, a_question("a", "other", 9))
        bank.taken_out("b")
        self.refused(Twice, "name", "b", bank.added, a_question("b", "other"))
        bank.put_back("b")
        self.assertEqual(all_of(bank), before)

    def test_the_sixtieth_and_the_sixty_first(self):
        bank = Bank([a_question(name) for name in some_names(59)])
        self.assertIsNone(bank.added(a_question("zzy")))
        self.refused(TooMany, "most", 60, bank.added, a_question("zzz"))
        self.refused(Twice, "name", "zzy", bank.added, a_question("zzy", "other"))
        self.refused(BadKind, "wanted", "Question", bank.added, None)
        self.assertEqual(len(bank), 60)
        bank.taken_out("zzy")
        self.refused(TooMany, "most", 60, bank.added, a_question("zzz"))
        bank.dropped("zzy")
        self.assertIsNone(bank.added(a_question("zzz")))
        self.assertEqual(len(bank.names()), 60)

    def test_of_anything(self):
        bank = a_bank()
        for thing in strangers() + [[], (), [a_question("x")], Bank()]:
            self.refused(BadKind, "wanted", "Question", bank.added, thing)
            self.refused(BadKind, "wanted", "Question", bank.put, thing)
        self.assertEqual(bank, a_bank())


class Put(Case):
    def test_it_stands_in_the_place(self):
        bank = a_bank()
        self.assertIsNone(bank.put(a_question("adds", "other", 8)))
        self.assertEqual(bank.question("adds"), a_question("adds", "other", 8))
        self.assertEqual(bank.days_of("adds"), [4, 9])
        self.assertEqual(bank.outs(), [("kings", "no king")])
        self.assertEqual(len(bank), 4)

    def test_out_stays_out(self):
        bank = a_bank()
        self.assertIsNone(bank.put(question=a_question("kings", "other")))
        self.assertEqual(bank.question("kings"), a_question("kings", "other"))
        self.assertEqual(bank.outs(), [("kings", "no king")])
        self.assertEqual(bank.days_of("kings"), [7])

    def test_no_such(self):
        bank = a_bank()
        self.refused(NoSuch, "name", "none", bank.put, a_question("none"))
        self.assertEqual(bank, a_bank())
        full = Bank([a_question(name) for name in some_names(60)])
        self.assertIsNone(full.put(full.question(full.names()[0]).changed(toil=9)))


class InAndOut(Case):
    def test_taken_out(self):
        bank = Bank(questions("a", "b", "c"))
        self.assertIsNone(bank.taken_out("b"))
        self.assertEqual(bank.outs(), [("b", "wrong")])
        self.assertIsNone(bank.taken_out("a", "two right"))
        self.assertEqual(bank.outs(), [("a", "two right"), ("b", "wrong")])
        self.assertEqual(bank.names_in(), ["c"])
        self.assertEqual(bank.names(), ["a", "b", "c"])
        self.assertEqual(len(bank), 1)

    def test_a_reason_in_the_place_of_an_elder_one(self):
        bank = Bank(questions("a", "b"))
        bank.taken_out("a", "one")
        self.assertIsNone(bank.taken_out(why="two", name="a"))
        self.assertEqual(bank.outs(), [("a", "two")])
        bank.taken_out("a")
        self.assertEqual(bank.outs(), [("a", "wrong")])

    def test_a_reason_is_a_text(self):
        bank = Bank(questions("a"))
        for why in ("x", "x" * 30, "a b", "~"):
            bank.taken_out("a", why)
            self.assertEqual(bank.outs(), [("a", why)])
        bank.taken_out("a", "so")
        for why in ["", " ", " x", "x ", "x" * 31, "x%", "x\ny"] + no_texts():
            self.refused(BadText, None, None, bank.taken_out, "a", why)
            self.no_such("none", bank.taken_out, why)
        self.assertEqual(bank.outs(), [("a", "so")])
        bank.put_back("a")
        self.refused(BadText, None, None, bank.taken_out, "a", "")
        self.assertEqual(bank.outs(), [])

    def test_put_back(self):
        bank = a_bank()
        self.assertIsNone(bank.put_back("kings"))
        self.assertEqual(bank.outs(), [])
        self.assertIn("kings", bank.names_in())
        self.assertEqual(bank.days_of("kings"), [7])
        self.refused(Gone, None, None, bank.put_back, "kings")
        self.refused(Gone, None, None, bank.put_back, name="adds")
        bank.taken_out("kings", "no king")
        self.assertEqual(bank, a_bank())

    def test_dropped_and_added_anew(self):
        bank = a_bank()
        self.assertIsNone(bank.dropped("kings"))
        self.assertIsNone(bank.dropped(name="adds"))
        self.assertEqual(bank.names(), ["dates", "mul", "seas"])
        self.assertEqual(bank.outs(), [])
        for name in ("kings", "adds"):
            for deed in (bank.dropped, bank.question, bank.days_of, bank.last_day, bank.put_back, bank.taken_out):
                self.no_such(name, deed)
            self.assertIsNone(bank.added(a_question(name)))
            self.assertEqual(bank.days_of(name), [])
            self.assertIn(name, bank.names_in())
        self.assertEqual(len(bank), 5)

    def test_no_such_of_anything(self):
        bank = a_bank()
        for thing in ["", "none", "ADDS", "adds ", "a" * 5000] + no_texts():
            for deed in (bank.taken_out, bank.put_back, bank.dropped, bank.question, bank.days_of, bank.last_day):
                self.no_such(thing, deed)
        self.assertEqual(bank, a_bank())


class Used(Case):
    def test_used_on(self):
        bank = Bank(questions("a", "b"))
        for day in (5, 0, 9999, 7, 5, 0, 9999):
            self.assertIsNone(bank.used_on("a", day))
        self.assertEqual(bank.days_of("a"), [0, 5, 7, 9999])
        self.assertEqual(bank.days_of("b"), [])
        self.assertIsNone(bank.used_on(day=3, name="b"))
        self.assertEqual(bank.days_of("b"), [3])

    def test_unused_on(self):
        bank = Bank(questions("a", "b"))
        for day in (5, 0, 9999, 5):
            bank.used_on("a", day)
        self.assertIsNone(bank.unused_on("a", 5))
        self.assertEqual(bank.days_of("a"), [0, 9999])
        self.refused(Gone, None, None, bank.unused_on, "a", 5)
        self.refused(Gone, None, None, bank.unused_on, "b", 0)
        self.assertIsNone(bank.unused_on("a", 0))
        self.assertIsNone(bank.unused_on(day=9999, name="a"))
        self.assertEqual(bank.days_of("a"), [])
        self.assertEqual(bank, Bank(questions("a", "b")))

    def test_one_that_is_out(self):
        bank = a_bank()
        bank.used_on("kings", 1)
        self.assertEqual(bank.days_of("kings"), [1, 7])
        bank.unused_on("kings", 7)
        self.assertEqual(bank.last_day("kings"), 1)

    def test_refusals(self):
        bank = a_bank()
        for day in [-1, 10000, 10 ** 3999] + no_whole_numbers():
            for deed in (bank.used_on, bank.unused_on, bank.last_day):
                with self.assertRaises(NoPlace) as caught:
                    deed("adds", day)
                self.assertIs(caught.exception.at, day)
                self.no_such("none", deed, day)
        for thing in [""] + no_texts():
            for deed in (bank.used_on, bank.unused_on, bank.last_day):
                self.no_such(thing, deed, 4)
        self.assertEqual(bank, a_bank())

    def test_last_day(self):
        bank = Bank(questions("a", "b"))
        for day in (10, 3, 9999):
            bank.used_on("a", day)
        for day, told in ((0, None), (2, None), (3, 3), (4, 3), (9, 3), (10, 10), (9998, 10), (9999, 9999)):
            self.assertEqual(bank.last_day("a", day), told)
        self.assertEqual(bank.last_day("a"), 9999)
        self.assertEqual(bank.last_day(day=5, name="a"), 3)
        self.assertIsNone(bank.last_day("b"))
        bank.used_on("b", 0)
        self.assertEqual(bank.last_day("b", 0), 0)


class Told(Case):
    def test_all(self):
        bank = a_bank()
        self.assertEqual(bank.names(), ["adds", "dates", "kings", "mul", "seas"])
        self.assertEqual(bank.names_in(), ["adds", "dates", "mul", "seas"])
        self.assertEqual(bank.outs(), [("kings", "no king")])
        self.assertEqual(bank.question("mul"), a_question("mul", "sums", 7))
        self.assertEqual(bank.question(name="kings"), a_question("kings", "past", 1, kin="k"))
        self.assertEqual(bank.days_of("adds"), [4, 9])
        self.assertEqual(bank.days_of(name="kings"), [7])
        self.assertEqual(bank.last_day("adds"), 9)
        self.assertEqual(list(bank.matters().items()), [("earth", 1), ("past", 1), ("sums", 2)])
        self.assertEqual(len(bank), 4)

    def test_matters_of_those_in(self):
        bank = a_bank()
        bank.taken_out("dates")
        self.assertEqual(list(bank.matters().items()), [("earth", 1), ("sums", 2)])
        bank.put_back("kings")
        bank.put_back("dates")
        self.assertEqual(list(bank.matters().items()), [("earth", 1), ("past", 2), ("sums", 2)])
        bank.put(a_question("seas", "water"))
        self.assertEqual(list(bank.matters().items()), [("past", 2), ("sums", 2), ("water", 1)])

    def test_what_is_told_is_the_askers_own(self):
        bank = a_bank()
        told = [bank.names(), bank.names_in(), bank.outs(), bank.days_of("adds"), bank.found(), bank.matters()]
        for each in told:
            each.clear()
        self.assertEqual(bank, a_bank())
        self.assertEqual(all_of(bank), all_of(a_bank()))
        days = bank.days_of("adds")
        days.append(1)
        days[0] = 77
        self.assertEqual(bank.days_of("adds"), [4, 9])

    def test_nothing_done_later_changes_what_was_told(self):
        bank = a_bank()
        told = all_of(bank)
        bank.used_on("adds", 1)
        bank.unused_on("adds", 9)
        bank.used_on("seas", 1)
        bank.taken_out("seas")
        bank.put_back("kings")
        bank.put(a_question("mul", "other"))
        bank.dropped("dates")
        bank.added(a_question("zoo"))
        self.assertEqual(told, all_of(a_bank()))


class Alike(Case):
    def test_whatever_the_order(self):
        one = a_bank()
        other = Bank([one.question(name) for name in reversed(one.names())])
        other.used_on("kings", 7)
        other.used_on("adds", 4)
        other.used_on("adds", 9)
        other.taken_out("kings", "other")
        other.taken_out("kings", "no king")
        self.assertTrue(one == other)
        self.assertFalse(one != other)
        self.assertTrue(other == one)

    def test_two_out_in_any_order(self):
        one = Bank(questions("a", "b"))
        other = Bank(questions("b", "a"))
        one.taken_out("a", "x")
        one.taken_out("b", "y")
        other.taken_out("b", "y")
        self.assertTrue(one != other)
        other.taken_out("a", "x")
        self.assertTrue(one == other)

    def test_what_is_undone_leaves_no_trace(self):
        bank = a_bank()
        bank.taken_out("mul")
        bank.put_back("mul")
        bank.used_on("mul", 3)
        bank.unused_on("mul", 3)
        bank.added(a_question("zoo"))
        bank.taken_out("zoo")
        bank.used_on("zoo", 3)
        bank.dropped("zoo")
        self.assertTrue(bank == a_bank())

    def test_unlike(self):
        def unlike(deed):
            bank = a_bank()
            deed(bank)
            self.assertFalse(bank == a_bank())
            self.assertFalse(a_bank() == bank)
            self.assertTrue(bank != a_bank())

        unlike(lambda bank: bank.added(a_question("zoo")))
        unlike(lambda bank: bank.dropped("mul"))
        unlike(lambda bank: bank.put(a_question("mul", "sums", 6)))
        unlike(lambda bank: bank.taken_out("mul"))
        unlike(lambda bank: bank.taken_out("kings", "other"))
        unlike(lambda bank: bank.put_back("kings"))
        unlike(lambda bank: bank.used_on("adds", 5))
        unlike(lambda bank: bank.unused_on("adds", 4))
        unlike(lambda bank: bank.used_on("mul", 4))

    def test_to_what_is_no_bank_none_is(self):
        for thing in strangers() + [[], (), a_question()]:
            self.assertIs(Bank() == thing, False)
            self.assertIs(a_bank() == thing, False)
            self.assertIs(a_bank() != thing, True)

    def test_length(self):
        bank = a_bank()
        self.assertEqual(len(bank), 4)
        for name in bank.names():
            bank.taken_out(name)
        self.assertEqual(len(bank), 0)


class Twin(Case):
    def test_equal(self):
        for bank in (Bank(), a_bank(), Bank([a_question(name) for name in some_names(60)])):
            twin = bank.twin()
            self.assertIsInstance(twin, Bank)
            self.assertIsNot(twin, bank)
            self.assertEqual(twin, bank)
            self.assertEqual(all_of(twin), all_of(bank))

    def test_each_goes_on_by_itself(self):
        deeds = (
            lambda bank: bank.added(a_question("zoo")), lambda bank: bank.dropped("adds"),
            lambda bank: bank.put(a_question("mul", "other")), lambda bank: bank.taken_out("mul"),
            lambda bank: bank.taken_out("kings", "other"), lambda bank: bank.put_back("kings"),
            lambda bank: bank.used_on("adds", 5), lambda bank: bank.unused_on("adds", 4),
            lambda bank: bank.used_on("mul", 5),
        )
        for deed in deeds:
            bank = a_bank()
            twin = bank.twin()
            deed(bank)
            self.assertEqual(twin, a_bank())
            self.assertNotEqual(bank, twin)
            bank = a_bank()
            twin = bank.twin()
            deed(twin)
            self.assertEqual(bank, a_bank())
            self.assertNotEqual(bank, twin)

    def test_two_banks_of_one_list_share_nothing(self):
        told = questions("a", "b")
        one = Bank(told)
        other = Bank(told)
        one.used_on("a", 3)
        one.taken_out("b")
        one.added(a_question("c"))
        self.assertEqual(other, Bank(questions("a", "b")))
        empty = Bank()
        empty.added(a_question("a"))
        self.assertEqual(Bank().names(), [])


class Need(Case):
    def test_need_bank(self):
        self.assertIsNone(need_bank(Bank()))
        self.assertIsNone(need_bank(thing=a_bank()))
        for thing in strangers() + [[], (), [a_bank()], a_question()]:
            self.refused(BadKind, "wanted", "Bank", need_bank, thing)


if __name__ == "__main__":
    unittest.main()
