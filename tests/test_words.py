"""Point [1], paperkin/words.py: names, texts, days, whole numbers."""

import string
import unittest

from paperkin.errors import BadText, NoPlace
from paperkin.words import is_name, is_text, is_whole, need_day, need_name, squeezed
from tests.things import no_texts, no_whole_numbers

NO_NAMES = (
    "", "abcdefghi", "A", "Ab", "aB", "abC", "a b", " a", "a ", "a1", "1", "a_b", "a-b", "a.", "a\n", "\na", "\n",
    "a\tb", "{", "`", "a" * 5000, "@", "[", "z{", "ab\xe9", "\xdf", "\xaa", "a\u0101", "\xe9" * 3,
)


class Whole(unittest.TestCase):
    def test_bounds_left_out(self):
        for thing in (0, 1, 9998, 9999):
            self.assertIs(is_whole(thing), True)
        for thing in (-1, 10000, -9999, 10 ** 3999, -(10 ** 3999)):
            self.assertIs(is_whole(thing), False)

    def test_bounds_by_place(self):
        for thing, told in ((1, False), (2, True), (3, True), (4, True), (5, False)):
            self.assertIs(is_whole(thing, 2, 4), told)

    def test_bounds_by_name(self):
        for thing, told in ((1, False), (2, True), (4, True), (5, False)):
            self.assertIs(is_whole(most=4, least=2, thing=thing), told)

    def test_one_bound_alone(self):
        self.assertIs(is_whole(4, 5), False)
        self.assertIs(is_whole(5, 5), True)
        self.assertIs(is_whole(9999, 5), True)
        self.assertIs(is_whole(10000, 5), False)
        self.assertIs(is_whole(4, least=5), False)
        self.assertIs(is_whole(5, least=5), True)
        self.assertIs(is_whole(-1, most=5), False)
        self.assertIs(is_whole(0, most=5), True)
        self.assertIs(is_whole(5, most=5), True)
        self.assertIs(is_whole(6, most=5), False)

    def test_bounds_below_nought_and_far_off(self):
        self.assertIs(is_whole(-3, -3, -1), True)
        self.assertIs(is_whole(-4, -3, -1), False)
        self.assertIs(is_whole(0, -3, -1), False)
        self.assertIs(is_whole(10 ** 3999, 0, 10 ** 3999), True)
        self.assertIs(is_whole(3, 4, 2), False)

    def test_true_and_false_are_none(self):
        for thing in (True, False):
            self.assertIs(is_whole(thing), False)
            self.assertIs(is_whole(thing, 0, 1), False)

    def test_of_anything(self):
        for thing in no_whole_numbers():
            self.assertIs(is_whole(thing), False, repr(thing)[:40])
            self.assertIs(is_whole(thing, -5, 5), False, repr(thing)[:40])


class Names(unittest.TestCase):
    def test_names(self):
        for thing in ("a", "z", "ab", "adds", "abcdefg", "abcdefgh", "zzzzzzzz"):
            self.assertIs(is_name(thing), True, thing)
        for letter in string.ascii_lowercase:
            self.assertIs(is_name(letter), True, letter)

    def test_no_names(self):
        for thing in NO_NAMES:
            self.assertIs(is_name(thing), False, repr(thing)[:40])
        for sign in [chr(code) for code in range(128)]:
            if sign not in string.ascii_lowercase:
                self.assertIs(is_name(sign), False, repr(sign))
                self.assertIs(is_name("ab" + sign), False, repr(sign))
                self.assertIs(is_name(sign + "ab"), False, repr(sign))

    def test_of_anything(self):
        for thing in no_texts():
            self.assertIs(is_name(thing), False)

    def test_need_name(self):
        self.assertIsNone(need_name("a"))
        self.assertIsNone(need_name(thing="abcdefgh"))
        for thing in list(NO_NAMES) + no_texts():
            with self.assertRaises(BadText, msg=repr(thing)[:40]):
                need_name(thing)


class Texts(unittest.TestCase):
    def test_texts(self):
        for thing in ("a", "~", "!", "a b", "a  b", "1", "x" * 29, "x" * 30, "a" + " " * 28 + "b", "A-z_9", '"', "\\"):
            self.assertIs(is_text(thing), True, thing)

    def test_each_sign(self):
        for code in range(300):
            sign = chr(code)
            may_be = " " <= sign <= "~" and sign != "%"
            self.assertIs(is_text("a" + sign + "b"), may_be, repr(sign))
            self.assertIs(is_text(sign), may_be and sign != " ", repr(sign))

    def test_no_texts(self):
        for thing in ("", " ", "  ", " a", "a ", " a ", "x" * 31, "x" * 5000, "%", "a%b", "100%", "\n", "a\n", "\na",
                      "a\nb", "a\tb", "\x1f", "\x7f"):
            self.assertIs(is_text(thing), False, repr(thing)[:40])

    def test_of_anything(self):
        for thing in no_texts():
            self.assertIs(is_text(thing), False)


class Days(unittest.TestCase):
    def test_need_day(self):
        for day in (0, 1, 9998, 9999):
            self.assertIsNone(need_day(day))
        self.assertIsNone(need_day(thing=7))

    def test_what_is_no_day(self):
        for thing in [-1, 10000, 10 ** 3999] + no_whole_numbers():
            with self.assertRaises(NoPlace) as caught:
                need_day(thing)
            self.assertIs(caught.exception.at, thing)


class Squeezed(unittest.TestCase):
    def test_blanks(self):
        for text, told in (
            ("", ""), (" ", ""), ("    ", ""), ("a", "a"), (" a", "a"), ("a ", "a"), ("  a  ", "a"), ("a b", "a b"),
            ("a  b", "a b"), ("a   b    c", "a b c"), ("  many   sums 2  4 ", "many sums 2 4"),
        ):
            self.assertEqual(squeezed(text), told)
        self.assertEqual(squeezed(text=" a  b "), "a b")

    def test_a_line_end_is_no_blank(self):
        for text, told in (
            ("\n", "\n"), (" \n ", "\n"), ("a\n", "a\n"), ("\n\n", "\n\n"), ("a \n b", "a \n b"),
            ("a  \n  b", "a \n b"), ("a\n\nb", "a\n\nb"),
        ):
            self.assertEqual(squeezed(text), told)

    def test_any_signs(self):
        self.assertEqual(squeezed(" %  ~ "), "% ~")
        self.assertEqual(squeezed(" \t  a\t "), "\t a\t")
        self.assertEqual(squeezed(" " * 3000 + "ab" * 5000 + " " * 3000), "ab" * 5000)

    def test_of_anything_but_a_text(self):
        for thing in no_texts():
            with self.assertRaises(BadText):
                squeezed(thing)


if __name__ == "__main__":
    unittest.main()
