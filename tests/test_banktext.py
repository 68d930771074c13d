"""Point [71], paperkin/banktext.py: banks, papers and wishes as texts."""

import time
import unittest

from paperkin.banks import Bank
from paperkin.banktext import bank_of, bank_text, paper_of_text, paper_text, wishes_of_text, wishes_text
from paperkin.errors import BadKind, BadLine, BadPaper, BadText, BadWish
from paperkin.questions import Question
from paperkin.wishes import Wish
from tests.things import Alike, Case, a_question, chance, no_texts, some_bank, some_names, some_wishes, strangers, wishes_of

TEXT = """question adds sums 3 2 twos
- 4
+ 5
- 6 or so
used 0 10 9999
question kings past 9 1 -
+ Otto
- Karl
out two are right
used 7
question seas earth 1 9 -
- five
+ seven
out wrong"""


def a_bank():
    bank = Bank([
        Question("seas", "earth", ("five", "seven"), 1, 1, 9), Question("kings", "past", ("Otto", "Karl"), 0, 9, 1),
        Question("adds", "sums", ("4", "5", "6 or so"), 1, 3, 2, "twos"),
    ])
    bank.taken_out("seas")
    bank.taken_out("kings", "two are right")
    for name, day in (("adds", 10), ("kings", 7), ("adds", 9999), ("adds", 0)):
        bank.used_on(name, day)
    return bank


class Reading(Case):
    def bad(self, row, word, deed, text):
        """A text is refused at that row and word."""
        with self.assertRaises(BadLine, msg=repr(text)[:300]) as caught:
            deed(text)
        self.assertEqual((caught.exception.row, caught.exception.word), (row, word), repr(text)[:300])

    def rows(self, *rows, bad):
        """Rows behind one another are refused at that row and word."""
        self.bad(*bad, bank_of, "\n".join(rows))


class Written(Case):
    def test_by_hand(self):
        self.assertEqual(bank_text(a_bank()), TEXT)
        self.assertEqual(bank_text(bank=a_bank()), TEXT)
        self.assertEqual(bank_text(Bank()), "")

    def test_read_again(self):
        self.assertEqual(bank_of(TEXT), a_bank())
        self.assertEqual(bank_of(text=TEXT), a_bank())
        self.assertEqual(bank_of(""), Bank())
        self.assertIs(type(bank_of("")), Bank)

    def test_many_banks_read_again(self):
        numbers = chance(71)
        for _ in range(60):
            bank = some_bank(numbers, 12)
            for name in bank.names():
                answers = tuple(numbers.sample(("x", "- y", "+ z", "out", "a  b", "~", "-", "+", "used 5"), numbers.randint(2, 6)))
                bank.put(Question(name, "m", answers, numbers.randint(0, len(answers) - 1), numbers.randint(1, 9)))
                for _ in range(numbers.randint(0, 3)):
                    bank.used_on(name, numbers.randint(0, 9999))
            text = bank_text(bank)
            self.assertEqual(bank_of(text), bank)
            self.assertEqual(bank_text(bank_of(text)), text)

    def test_what_is_read_goes_on_by_itself(self):
        bank = bank_of(TEXT)
        bank.dropped("adds")
        bank.used_on("kings", 8)
        self.assertEqual(bank_of(TEXT), a_bank())
        bank = a_bank()
        bank_text(bank)
        self.assertEqual(bank, a_bank())

    def test_no_bank_and_no_text(self):
        for thing in strangers() + [[], (), a_question(), Alike()]:
            self.refused(BadKind, "Bank", bank_text, thing)
        for thing in no_texts() + [Alike(), a_bank()]:
            for deed in (bank_of, paper_of_text, wishes_of_text):
                with self.assertRaises(BadText):
                    deed(thing)

    def test_at_the_bounds(self):
        bank = Bank([Question(name, "m", ("a" * 30, "b" * 30, "c", "d", "e", "f"), 5, 9, 9, "abcdefgh") for name in some_names(60)])
        for name in some_names(60):
            for day in range(0, 10000, 400):
                bank.used_on(name, day)
            bank.taken_out(name, "r" * 30)
        start = time.perf_counter()
        for _ in range(5):
            self.assertEqual(bank_of(bank_text(bank)), bank)
        self.assertLess(time.perf_counter() - start, 3)


WHOLE = ("question b m 5 1 -", "- x", "+ y")


class RefusedRows(Reading):
    def test_line_ends_ahead_or_behind(self):
        self.bad(1, 1, bank_of, "\n" + TEXT)
        self.bad(15, 1, bank_of, TEXT + "\n")
        self.bad(1, 1, bank_of, "\n")
        self.bad(1, 1, bank_of, "\n\n")
        self.bad(1, 1, bank_of, " ")
        self.rows("question a m 5 1 -", "", "- x", "+ y", bad=(2, 1))
        self.rows(*WHOLE, "", "question c m 5 1 -", bad=(4, 1))

    def test_first_words(self):
        for row in ("x", "Question b m 5 1 -", "questions b m 5 1 -", "- x", "+ x", "out x", "used 5", " question b m 5 1 -", "#"):
            self.rows(row, bad=(1, 1))
        for row in ("x", "*", "-- z", "-z", "+z", "outs x", "Out x", " out x", "uses 5", "used5", " - z", "\t- z", "_"):
            self.rows(*WHOLE, row, bad=(4, 1))

    def test_words_of_a_question(self):
        for row, word in (
            ("question", 2), ("question ", 2), ("question b", 3), ("question b ", 3), ("question b m", 4),
            ("question b m 5", 5), ("question b m 5 1", 6), ("question b m 5 1 ", 6), ("question b m 5 1 - ", 7),
            ("question b m 5 1 - x", 7), ("question b m 5 1 k l m", 7), ("question  b m 5 1 -", 2), ("question b  m 5 1 -", 3),
            ("question b m  5 1 -", 4), ("question b m 5  1 -", 5), ("question b m 5 1  -", 6), ("question B m 5 1 -", 2),
            ("question abcdefghi m 5 1 -", 2), ("question b2 m 5 1 -", 2), ("question b M 5 1 -", 3), ("question b - 5 1 -", 3),
            ("question b abcdefghi 5 1 -", 3), ("question b m 0 1 -", 4), ("question b m 10 1 -", 4), ("question b m 05 1 -", 4),
            ("question b m x 1 -", 4), ("question b m -5 1 -", 4), ("question b m +5 1 -", 4), ("question b m 5 0 -", 5),
            ("question b m 5 10 -", 5), ("question b m 5 01 -", 5), ("question b m 5 x -", 5), ("question b m 5 1 K", 6),
            ("question b m 5 1 --", 6), ("question b m 5 1 abcdefghi", 6), ("question b m 5 1 +", 6), ("question B M 0 0 K x", 2),
            ("question b M 0 0 K x", 3), ("question b m 0 0 K x", 4), ("question b m 5 0 K x", 5), ("question b m 5 1 K x", 6),
            ("question b m 5.0 1 -", 4), ("question b m " + "9" * 5000 + " 1 -", 4), ("question - m 5 1 -", 2),
        ):
            self.rows(row, bad=(1, word))
            self.rows(row, *WHOLE[1:], bad=(1, word))
            self.rows("question a m 5 1 k", "+ p", "- q", row, bad=(4, word))

    def test_names_that_do_not_rise(self):
        for name in ("b", "a", "az"):
            self.rows(*WHOLE, "question " + name + " m 5 1 -", bad=(4, 2))
        self.rows(*WHOLE, "question a M 5 1 -", bad=(4, 2))
        self.assertEqual(bank_of("\n".join(WHOLE + ("question ba m 5 1 -", "+ x", "- y"))).names(), ["b", "ba"])

    def test_answers(self):
        start = "question b m 5 1 -"
        for row in ("-", "- ", "-  x", "- x ", "- " + "x" * 31, "- a\tb", "- 5" + chr(37), "+", "+ ", "+  x", "+ x ", "- \x7f"):
            self.rows(start, row, bad=(2, 2))
            self.rows(start, "- p", row, "+ q", bad=(3, 2))
        self.assertEqual(bank_of("\n".join((start, "- a  b", "+ " + "x" * 30))).question("b").answers, ("a  b", "x" * 30))

    def test_an_answer_that_is_there_already(self):
        start = "question b m 5 1 -"
        self.rows(start, "- x", "- x", bad=(3, 2))
        self.rows(start, "- x", "+ x", bad=(3, 2))
        self.rows(start, "+ x", "- x", bad=(3, 2))
        self.rows(start, "- x", "+ y", "- z", "- x", bad=(5, 2))
        self.assertEqual(len(bank_of("\n".join((start, "- x", "+ X")))), 1)

    def test_a_second_right_one(self):
        self.rows(*WHOLE, "+ z", bad=(4, 1))
        self.rows(*WHOLE, "+ x", bad=(4, 1))
        self.rows(*WHOLE, "+", bad=(4, 1))
        self.rows("question b m 5 1 -", "+ x", "+ y", bad=(3, 1))

    def test_a_seventh_answer(self):
        six = ("question b m 5 1 -", "- p", "- q", "+ r", "- s", "- t", "- u")
        self.assertEqual(len(bank_of("\n".join(six)).question("b")), 6)
        for row in ("- v", "+ v", "- p", "-"):
            self.rows(*six, row, bad=(8, 1))
        last = six[:3] + ("- r",) + six[4:6] + ("+ u",)
        self.assertEqual(bank_of("\n".join(last)).question("b").right, 5)
        # Of six answers without the right one what comes next can't stand.
        none = six[:3] + ("- r",) + six[4:]
        for row in ("+ v", "- v", "out x", "used 5", "question c m 5 1 -"):
            self.rows(*none, row, bad=(8, 1))
        self.rows(*none, bad=(8, 1))

    def test_ahead_of_two_answers_or_the_right_one(self):
        start = "question b m 5 1 -"
        for begun in ((start,), (start, "- x"), (start, "+ x"), (start, "- x", "- y"), (start, "- x", "- y", "- z")):
            for row in ("out x", "used 5", "question c m 5 1 -", "out", "used", "question", ""):
                self.rows(*begun, row, bad=(len(begun) + 1, 1))
            self.rows(*begun, bad=(len(begun) + 1, 1))
            behind = [row.replace(" b ", " c ") for row in begun]
            self.rows(*WHOLE, *behind, bad=(len(begun) + 4, 1))
            for row in ("out x", "used 5", "question d m 5 1 -"):
                self.rows(*WHOLE, *behind, row, bad=(len(begun) + 4, 1))

    def test_out(self):
        for row in ("out", "out ", "out  x", "out x ", "out " + "x" * 31, "out a\tb"):
            self.rows(*WHOLE, row, bad=(4, 2))
        self.assertEqual(bank_of("\n".join(WHOLE + ("out x  y",))).outs(), [("b", "x  y")])
        for row in ("out y", "- z", "+ z", "out", "-"):
            self.rows(*WHOLE, "out x", row, bad=(5, 1))

    def test_used(self):
        for row, word in (
            ("used", 2), ("used ", 2), ("used  5", 2), ("used 5 ", 3), ("used 5  6", 3), ("used 10000", 2), ("used 05", 2),
            ("used 00", 2), ("used -1", 2), ("used +1", 2), ("used x", 2), ("used 5 5", 3), ("used 5 4", 3), ("used 5 6 6", 4),
            ("used 5 6 0", 4), ("used 1 2 3 x 2", 5), ("used 5,6", 2), ("used " + "9" * 5000, 2), ("used 5 010", 3), ("used 1.0", 2),
        ):
            self.rows(*WHOLE, row, bad=(4, word))
        self.assertEqual(bank_of("\n".join(WHOLE + ("used 0 5 9999",))).days_of("b"), [0, 5, 9999])
        self.assertEqual(bank_of("\n".join(WHOLE + ("used 0",))).days_of("b"), [0])
        for row in ("used 6", "out x", "- z", "+ z", "used", "out"):
            self.rows(*WHOLE, "used 5", row, bad=(5, 1))
            self.rows(*WHOLE, "out x", "used 5", row, bad=(6, 1))

    def test_a_sixty_first_question(self):
        names = some_names(61)
        rows = [row for name in names[:60] for row in ("question " + name + " m 5 1 -", "- x", "+ y")]
        self.assertEqual(bank_of("\n".join(rows)).names(), names[:60])
        self.rows(*rows, "question " + names[60] + " m 5 1 -", bad=(181, 1))
        self.rows(*rows, "question", bad=(181, 1))
        self.rows(*rows, "question " + names[60] + " m 5 1 -", "- x", "+ y", bad=(181, 1))

    def test_the_first_row_that_can_not_stand(self):
        self.rows("question a m 5 1 -", "- x", "+ y", "used 5 4", "x", bad=(4, 3))
        self.rows("question a m 5 1 -", "- x", "- x", "- x", bad=(3, 2))

    def test_a_row_changed_by_one_sign(self):
        for at in range(len(TEXT)):
            with self.subTest(at=at):
                text = TEXT[:at] + TEXT[at + 1:]
                row = TEXT[:at].count("\n") + 1
                try:
                    bank = bank_of(text)
                except BadLine as caught:
                    self.assertGreaterEqual(caught.row, row)
                else:
                    self.assertNotEqual(bank, a_bank())
                    self.assertEqual(bank_text(bank), text)


class Papers(Reading):
    def test_written_and_read(self):
        for many in (1, 2, 39, 40):
            paper = tuple(some_names(many))
            self.assertEqual(paper_text(paper), " ".join(paper))
            self.assertEqual(paper_of_text(paper_text(paper)), paper)
        self.assertEqual(paper_text(paper=("a", "b")), "a b")
        self.assertEqual(paper_of_text(text="a b"), ("a", "b"))

    def test_no_paper(self):
        for thing in strangers() + [(), [], ["a"], ("b", "a"), ("a", "a"), tuple(some_names(41)), ("A",), Alike(), (Alike(),)]:
            self.refused(BadPaper, None, paper_text, thing)

    def test_words_that_can_not_stand(self):
        for text, word in (
            ("", 1), (" ", 1), (" a", 1), ("a ", 2), ("a  b", 2), ("a b ", 3), ("b a", 2), ("a a", 2), ("a b b", 3),
            ("A", 1), ("a B c", 2), ("a b1", 2), ("abcdefghi", 1), ("a\nb", 1), ("a\n", 1), ("\na", 1), ("a b\n", 2),
            ("a\tb", 1), ("a,b", 1), ("a, b", 1), ("\n", 1), ("b a B", 2), ("c d b a", 3),
        ):
            self.bad(1, word, paper_of_text, text)
        self.bad(1, 41, paper_of_text, " ".join(some_names(41)))
        self.bad(1, 41, paper_of_text, " ".join(some_names(40) + ["A"]))
        self.bad(1, 41, paper_of_text, " ".join(some_names(40)) + " ")
        self.bad(1, 3, paper_of_text, " ".join(some_names(2) + ["a"] + some_names(50)))


class Wishes(Reading):
    def test_written_and_read(self):
        numbers = chance(72)
        for _ in range(50):
            wishes = some_wishes(numbers, 12)
            text = wishes_text(wishes)
            self.assertEqual(text, "\n".join(str(wish) for wish in wishes))
            self.assertEqual(wishes_of_text(text), wishes)
            self.assertEqual(wishes_text(tuple(wishes)), text)
        self.assertEqual(wishes_text([]), "")
        self.assertEqual(wishes_of_text(""), [])
        self.assertIs(type(wishes_of_text("")), list)
        self.assertEqual(wishes_text(wishes=wishes_of("many sums 2 4", "kin 0 0")), "many sums 2 4\nkin 0 0")
        self.assertEqual(wishes_of_text(text="many sums 2 4\nkin 0 0"), wishes_of("many sums 2 4", "kin 0 0"))
        self.assertEqual(len(wishes_of_text("\n".join(["many 0 1"] * 12))), 12)

    def test_blanks_as_for_a_wish(self):
        self.assertEqual(wishes_of_text("  many   0 1 \nkin  0   0"), wishes_of("many 0 1", "kin 0 0"))

    def test_the_list_is_the_askers_own(self):
        wishes_of_text("many 0 1").clear()
        self.assertEqual(len(wishes_of_text("many 0 1")), 1)
        wishes = wishes_of("many 0 1")
        wishes_text(wishes)
        self.assertEqual(wishes, wishes_of("many 0 1"))

    def test_no_wishes(self):
        for thing in strangers() + [a_question(), Wish("many"), Bank(), Alike()]:
            self.refused(BadKind, "list", wishes_text, thing)
        for thing in strangers() + [a_question(), [], Alike()]:
            self.refused(BadWish, 1, wishes_text, [Wish("many"), thing, thing])
            self.refused(BadWish, 0, wishes_text, (thing,))
        self.refused(BadWish, 12, wishes_text, [Wish("many")] * 13)

    def test_rows_that_are_refused(self):
        good = "many 0 1"
        for row in ("", " ", "x", "many", "many 0", "many 2 1", "many 0 01", "many 0 1000", "with 0 1", "rest a 0 1", "many 0 1 2 3", "many\t0 1"):
            for ahead in range(4):
                self.bad(ahead + 1, 1, wishes_of_text, "\n".join([good] * ahead + [row, "x", good]))
        self.bad(1, 1, wishes_of_text, "\n")
        self.bad(2, 1, wishes_of_text, good + "\n")
        self.bad(1, 1, wishes_of_text, "\n" + good)
        self.bad(1, 1, wishes_of_text, " ")

    def test_a_thirteenth_one(self):
        good = "many 0 1"
        self.bad(13, 1, wishes_of_text, "\n".join([good] * 13))
        self.bad(13, 1, wishes_of_text, "\n".join([good] * 12) + "\n")
        self.bad(13, 1, wishes_of_text, "\n".join([good] * 20))
        self.bad(12, 1, wishes_of_text, "\n".join([good] * 11 + ["x"] + [good] * 3))


if __name__ == "__main__":
    unittest.main()
