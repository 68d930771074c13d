"""Points [21] to [23], paperkin/wishes.py: wishes, and how they are written."""

import unittest

from paperkin.errors import BadKind, BadText, BadWish
from paperkin.wishes import Wish, need_wish, need_wishes, wish_of
from tests.things import a_question, no_texts, no_whole_numbers, strangers

WORDS = ("many", "toil", "marks", "rest", "kin", "with")
FIELDS = ("word", "what", "least", "most")
NO_NAMES = (" ", "abcdefghi", "A", "a b", " a", "a ", "a1", "a\n", "1", "-")


def fields_of(wish):
    return tuple(getattr(wish, field) for field in FIELDS)


class Case(unittest.TestCase):
    def refused(self, at, deed, *told, **more):
        with self.assertRaises(BadWish, msg=repr((told, more))[:80]) as caught:
            deed(*told, **more)
        self.assertEqual(caught.exception.at, at)

    def bad_kind(self, wanted, deed, *told):
        with self.assertRaises(BadKind, msg=repr(told)[:80]) as caught:
            deed(*told)
        self.assertEqual(caught.exception.wanted, wanted)


class Made(Case):
    def test_word(self):
        for word in WORDS:
            self.assertEqual(Wish(word, "adds" if word == "with" else "").word, word)
        for thing in ["", "man", "many ", "Many", "manys", "without", "a" * 5000, "any", "toil marks"] + no_texts():
            self.refused("word", Wish, thing)
            self.refused("word", Wish, thing, "adds", 0, 0)

    def test_what(self):
        for word in ("many", "toil", "marks", "kin"):
            for what in ("", "a", "abcdefgh"):
                self.assertEqual(Wish(word, what).what, what)
        for word in WORDS:
            for thing in list(NO_NAMES) + no_texts():
                self.refused("what", Wish, word, thing)

    def test_what_of_with_and_of_rest(self):
        self.assertEqual(fields_of(Wish("with", "adds")), ("with", "adds", 0, 999))
        self.refused("what", Wish, "with")
        self.refused("what", Wish, "with", "")
        self.assertEqual(fields_of(Wish("rest")), ("rest", "", 0, 999))
        self.assertEqual(fields_of(Wish("rest", "")), ("rest", "", 0, 999))
        self.refused("what", Wish, "rest", "adds")
        self.refused("what", Wish, "rest", "a", 0, 0)

    def test_least(self):
        for word in ("many", "toil", "marks", "rest", "kin"):
            for least in (0, 1, 998, 999):
                self.assertEqual(Wish(word, "", least).least, least)
            for thing in [-1, 1000, 10 ** 3999] + no_whole_numbers():
                self.refused("least", Wish, word, "", thing)
                self.refused("least", Wish, word, "", thing, 999)
        self.refused("least", Wish, "with", "adds", -1)

    def test_most(self):
        for word in ("many", "toil", "marks", "rest", "kin"):
            for most in (0, 1, 998, 999):
                self.assertEqual(Wish(word, "", 0, most).most, most)
            for thing in [-1, 1000, 10 ** 3999] + no_whole_numbers():
                self.refused("most", Wish, word, "", 0, thing)
        self.refused("most", Wish, "with", "adds", 0, 1000)

    def test_most_less_than_least(self):
        for word in ("many", "toil", "marks", "kin"):
            self.assertEqual(Wish(word, "", 5, 5).most, 5)
            self.assertEqual(Wish(word, "a", 5, 6).most, 6)
            self.refused("most", Wish, word, "", 5, 4)
            self.refused("most", Wish, word, "a", 999, 0)
        self.assertEqual(Wish("with", "a", 5, 5).most, 5)
        self.refused("most", Wish, "with", "a", 1, 0)
        self.assertEqual(fields_of(Wish("rest", "", 5, 4)), ("rest", "", 5, 4))
        self.assertEqual(fields_of(Wish("rest", "", 999, 0)), ("rest", "", 999, 0))
        self.refused("most", Wish, "rest", "", 5, -1)

    def test_the_first_is_refused(self):
        good = {"word": "many", "what": "sums", "least": 1, "most": 2}
        for at, first in enumerate(FIELDS):
            for second in FIELDS[at + 1:]:
                for thing in (None, True, [], 1000, "A"):
                    self.refused(first, Wish, **{**good, first: thing, second: thing})
        self.refused("least", Wish, "many", "", 1000, 999)
        self.refused("what", Wish, "rest", "adds", 1000, 1000)

    def test_defaults_and_names(self):
        self.assertEqual(fields_of(Wish("many")), ("many", "", 0, 999))
        self.assertEqual(fields_of(Wish("toil", "sums", 3, 7)), ("toil", "sums", 3, 7))
        self.assertEqual(fields_of(Wish(most=7, least=3, what="sums", word="toil")), ("toil", "sums", 3, 7))
        self.assertEqual(fields_of(Wish("kin", most=0)), ("kin", "", 0, 0))


class Alike(Case):
    def test_equal_if_all_four_are(self):
        good = {"word": "many", "what": "sums", "least": 1, "most": 2}
        one = Wish(**good)
        self.assertTrue(one == Wish(**good))
        self.assertFalse(one != Wish(**good))
        for field, value in (("word", "toil"), ("what", ""), ("what", "sumy"), ("least", 0), ("most", 3)):
            unlike = Wish(**{**good, field: value})
            self.assertFalse(one == unlike)
            self.assertFalse(unlike == one)
            self.assertTrue(one != unlike)

    def test_to_what_is_no_wish_none_is(self):
        wish = Wish("many", "sums", 2, 4)
        for thing in strangers() + [[], (), ("many", "sums", 2, 4), "many sums 2 4", a_question()]:
            self.assertIs(wish == thing, False)
            self.assertIs(wish != thing, True)

    def test_text(self):
        for wish, told in (
            (Wish("many", "sums", 2, 4), "many sums 2 4"), (Wish("kin", "", 0, 0), "kin 0 0"),
            (Wish("many"), "many 0 999"), (Wish("rest", "", 30, 1), "rest 30 1"), (Wish("with", "adds", 1), "with adds 1 999"),
            (Wish("toil", "", 10, 20), "toil 10 20"), (Wish("marks", "past", 0, 9), "marks past 0 9"),
        ):
            self.assertEqual(str(wish), told)
            self.assertEqual(repr(wish), "Wish(" + told + ")")
            self.assertEqual(repr([wish]), "[Wish(" + told + ")]")

    def test_length(self):
        for word in ("many", "toil", "marks"):
            self.assertEqual(len(Wish(word)), 2)
            self.assertEqual(len(Wish(word, "sums")), 1)
        self.assertEqual(len(Wish("rest")), 1)
        self.assertEqual(len(Wish("kin")), 1)
        self.assertEqual(len(Wish("kin", "twos")), 1)
        self.assertEqual(len(Wish("with", "adds")), 1)


class Moved(Case):
    def test_moved(self):
        for least, most, by, told in (
            (2, 4, 0, (2, 4)), (2, 4, 1, (3, 5)), (2, 4, -1, (1, 3)), (2, 4, -2, (0, 2)), (2, 4, -3, (0, 1)),
            (2, 4, -4, (0, 0)), (2, 4, -50, (0, 0)), (990, 995, 4, (994, 999)), (990, 995, 5, (995, 999)),
            (990, 995, 9, (999, 999)), (990, 995, 10, (999, 999)), (0, 999, 1, (1, 999)), (0, 999, -1, (0, 998)),
            (3, 9, 10 ** 3999, (999, 999)), (3, 9, -(10 ** 3999), (0, 0)),
        ):
            wish = Wish("toil", "sums", least, most)
            other = wish.moved(by)
            self.assertIsInstance(other, Wish)
            self.assertIsNot(other, wish)
            self.assertEqual(fields_of(other), ("toil", "sums") + told)
            self.assertEqual(fields_of(wish), ("toil", "sums", least, most))
        self.assertEqual(fields_of(Wish("with", "adds", 0, 0).moved(by=1)), ("with", "adds", 1, 1))

    def test_of_rest(self):
        self.assertEqual(fields_of(Wish("rest", "", 30, 1).moved(2)), ("rest", "", 32, 3))
        self.assertEqual(fields_of(Wish("rest", "", 30, 1).moved(-2)), ("rest", "", 28, 0))

    def test_of_no_whole_number(self):
        for thing in no_whole_numbers():
            self.bad_kind("number", Wish("many").moved, thing)


class Need(Case):
    def test_need_wish(self):
        self.assertIsNone(need_wish(Wish("many")))
        self.assertIsNone(need_wish(thing=Wish("kin")))
        for thing in strangers() + [[], (), [Wish("many")], a_question()]:
            self.bad_kind("Wish", need_wish, thing)

    def test_need_wishes(self):
        for many in range(13):
            self.assertIsNone(need_wishes([Wish("many")] * many))
            self.assertIsNone(need_wishes(tuple([Wish("kin", "", 0, 0)] * many)))
        self.assertIsNone(need_wishes(thing=[]))

    def test_of_no_list(self):
        for thing in strangers() + [Wish("many"), a_question(), range(0)]:
            self.bad_kind("list", need_wishes, thing)

    def test_one_that_is_none(self):
        for many in (1, 2, 12, 13, 14):
            for at in range(many):
                for thing in (None, "many 0 1", [], a_question(), [Wish("many")]):
                    told = [Wish("many")] * many
                    told[at] = thing
                    self.refused(min(at, 12), need_wishes, told)
                    self.refused(min(at, 12), need_wishes, tuple(told))
        for thing in strangers():
            self.refused(1, need_wishes, [Wish("many"), thing])

    def test_the_thirteenth(self):
        for many in (13, 14, 40):
            self.refused(12, need_wishes, [Wish("many")] * many)
        self.refused(12, need_wishes, [Wish("many")] * 13 + [None])
        self.refused(3, need_wishes, [Wish("many")] * 3 + [None, None] + [Wish("many")] * 20)


class Read(Case):
    def test_of_each_words_text(self):
        for wish in (
            Wish("many", "sums", 2, 4), Wish("many"), Wish("toil", "", 0, 0), Wish("toil", "a", 10, 100),
            Wish("marks", "past", 9, 10), Wish("rest", "", 30, 1), Wish("kin", "", 0, 0), Wish("kin", "twos", 0, 1),
            Wish("with", "adds", 1, 1), Wish("marks", "abcdefgh", 999, 999),
        ):
            self.assertEqual(wish_of(str(wish)), wish)
            self.assertEqual(wish_of(text=str(wish)), wish)
            self.assertIsInstance(wish_of(str(wish)), Wish)

    def test_blanks(self):
        told = Wish("many", "sums", 2, 4)
        for text in (" many sums 2 4", "many sums 2 4 ", "   many    sums  2     4   "):
            self.assertEqual(wish_of(text), told)
        self.assertEqual(wish_of("  kin   0  0 "), Wish("kin", "", 0, 0))

    def test_too_few_and_too_many_words(self):
        for text in ("", " ", "   ", "many", "many 2", "many sums", "many sums 2 4 5", "many a b 2 4", "a b c d e", "x"):
            self.refused("word", wish_of, text)

    def test_as_wish_refuses(self):
        for text, at in (
            ("lots 2 4", "word"), ("Many 2 4", "word"), ("many A 2 4", "what"), ("many abcdefghi 2 4", "what"),
            ("with 0 0", "what"), ("rest adds 1 1", "what"), ("rest 5 1000", "most"), ("many 5 4", "most"),
            ("many sums 5 4", "most"), ("many 1 2 3", "what"), ("lots A x y", "word"), ("many A x y", "what"),
            ("many x y", "least"), ("many 1 y", "most"), ("many sums x y", "least"), ("with 01 01", "what"),
        ):
            self.refused(at, wish_of, text)
        self.assertEqual(wish_of("rest 5 4"), Wish("rest", "", 5, 4))

    def test_numbers(self):
        for number in ("0", "1", "9", "10", "99", "100", "998", "999"):
            self.assertEqual(wish_of("many " + number + " 999"), Wish("many", "", int(number), 999))
            self.assertEqual(wish_of("many 0 " + number), Wish("many", "", 0, int(number)))
        for word in (
            "00", "01", "007", "000", "0999", "1000", "9999", "10000", "+1", "-1", "-0", "1.0", "1_0", "a", "1a", "a1",
            "0x1", "9" * 4000, "9" * 5000, "1" + "0" * 9000, "0" * 9000, "1\n", "\n1", "1\n1", "\n", "1,", "\t1",
        ):
            self.refused("least", wish_of, "many " + word + " 999")
            self.refused("most", wish_of, "many sums 0 " + word)

    def test_line_ends_are_no_blanks(self):
        self.refused("word", wish_of, "many\n2 4")
        self.refused("word", wish_of, "many\n2\n4")
        self.refused("word", wish_of, "many\n 2 4")
        self.refused("word", wish_of, "\nmany 2 4")
        self.refused("what", wish_of, "many \n 2 4")
        self.refused("what", wish_of, "many sums\n 2 4")
        self.refused("least", wish_of, "many 2\n 4")
        self.refused("most", wish_of, "many 2 4\n")
        self.refused("most", wish_of, "many 2 4\n ")
        self.refused("word", wish_of, "many sums 2 4 \n")

    def test_of_no_text(self):
        for thing in no_texts() + [Wish("many")]:
            with self.assertRaises(BadText):
                wish_of(thing)


if __name__ == "__main__":
    unittest.main()
