"""Point [72], paperkin/desk.py: a desk that is led by lines."""

import time
import unittest

from paperkin.banks import Bank
from paperkin.banktext import bank_of, bank_text
from paperkin.copies import Copy
from paperkin.desk import Desk
from paperkin.errors import BadKind
from paperkin.joining import joined_banks
from paperkin.questions import Question
from paperkin.rows import most_row
from paperkin.sheets import key_sheet, sheet_text
from tests.things import Alike, Case, a_question, chance, no_texts, plain_bank, some_names, strangers

TEXT = """question adds sums 3 2 twos
- 4
+ 5
- 6
used 10
question dates past 9 1 -
+ 1066
- 1077
question kings past 5 1 -
+ Otto
- Karl
out two are right
question seas earth 1 9 -
- five
+ seven"""
DEEDS = (
    "load", "load\n" + TEXT, "join", "join\n" + TEXT, "out adds no good", "in kings", "drop dates", "use adds 5",
    "unuse adds 10", "wish many 0 9", "unwish 0", "day 77",
)
BAD_LINES = (
    "", " ", "\n", "x", "Load", "LOAD", "load ", " load", "load x", "load 5", "load  ", "loads", "load \n", "load x\n" + TEXT,
    "join ", "join x", "joins", "join \n", " join\n", "out", "out adds", "out adds ", "out  adds x", "out adds  x", "out adds x ",
    "out adds x\n", "out adds\nx", "outs adds x", "in", "in ", "in adds x", "in  adds", "in adds ", "in adds\n", "In adds", "drop",
    "drop adds x", "drop ", "drop adds\n", "use", "use adds", "use adds x", "use adds 05", "use adds 10000", "use adds -1",
    "use adds 5 6", "use adds 5 ", "use adds 00", "use adds +5", "use 5 adds", "use adds 5\n", "unuse", "unuse adds",
    "unuse adds 010", "unuse adds 12345", "unuse adds ten", "unuse adds 1 2", "wish", "wish ", "wish  many 0 1", "wish many 0 1 ",
    "wish many  0 1", "wish many 0 1\n", "wish\nmany 0 1", "unwish", "unwish x", "unwish 00", "unwish 01", "unwish -1", "unwish 0 1",
    "unwish 10000", "day", "day x", "day 01", "day 10000", "day -1", "day 5 6", "day 5\n", "day ", "undo 1", "undo ", "undo\n", "undo x",
    "Undo", "show x", "show ", "show\n", "names x", "names ", "names\n", "wishes x", "wishes ", "wishes\n", "paper", "paper x",
    "paper 02", "paper -1", "paper 2 3", "paper 10000", "paper 2\n", "papers", "papers x", "papers 02", "papers 2 3", "papers 2 ",
    "sums", "sums ", "sums  adds", "sums adds ", "sums adds\n", "copy", "copy 1", "copy adds", "copy x adds", "copy 01 adds",
    "copy 10000 adds", "copy 1  adds", "copy 1 adds ", "copy 1 adds\n", "copy -1 adds", "key", "key 1", "key x adds", "key 00 adds",
    "key 1 adds ", "key adds 1", "help", "quit", "undo undo", "show names", "load\tx", "names\tx", "day 5.0", "day \xb2",
)


def a_desk():
    return Desk(bank_of(TEXT))


def state(desk):
    return (str(desk), desk.said("wishes"), len(desk), repr(desk))


class Lines(Case):
    def led(self, *pairs, desk=None):
        """Lines said one behind the other, each with its answer."""
        led = a_desk() if desk is None else desk
        for line, told in pairs:
            found = led.said(line)
            self.assertIs(type(found), str)
            self.assertEqual(found, told, line)
        return led


class Making(Lines):
    def test_with_and_without_a_bank(self):
        self.assertEqual(str(Desk()), "")
        self.assertEqual(str(Desk(None)), "")
        self.assertEqual(str(Desk(bank=bank_of(TEXT))), TEXT)
        self.assertEqual((len(Desk()), repr(Desk()), bool(Desk())), (0, "Desk(0)", False))
        self.assertEqual((len(a_desk()), repr(a_desk()), bool(a_desk())), (3, "Desk(3)", True))

    def test_no_bank(self):
        for thing in strangers() + [[], (), a_question(), Alike(), a_desk(), TEXT]:
            if thing is not None:
                self.refused(BadKind, "Bank", Desk, thing)

    def test_the_bank_is_neither_kept_nor_changed(self):
        bank = bank_of(TEXT)
        desk = Desk(bank)
        for line in DEEDS:
            desk.said(line)
        self.assertEqual(bank, bank_of(TEXT))
        desk = Desk(bank)
        bank.dropped("adds")
        bank.used_on("seas", 4)
        self.assertEqual(str(desk), TEXT)


class Table(Lines):
    def test_load(self):
        desk = self.led(("load\n" + TEXT, "4 questions"), ("show", TEXT), desk=Desk())
        self.led(("load", "0 questions"), ("show", "none"), ("names", "none"), desk=desk)
        self.led(("load\nquestion a m 5 1 -\n- x\n+ y", "1 questions"), ("names", "a"), desk=desk)
        self.led(("load\n", "0 questions"), ("show", "none"), desk=desk)

    def test_load_leaves_wishes_and_day(self):
        desk = self.led(("wish many 0 9", "done"), ("wish rest 9 0", "done"), ("day 15", "done"), ("load\n" + TEXT, "4 questions"))
        self.led(("wishes", "many 0 9, rest 9 0"), ("sums adds", "many 0 9: 1, rest 9 0: 1"), desk=desk)

    def test_load_refused(self):
        self.led(
            ("load\n\n" + TEXT, "bad row 1 1"), ("load\n" + TEXT + "\n", "bad row 16 1"), ("load\nx", "bad row 1 1"),
            ("load\nquestion a m 5 1", "bad row 1 6"), ("load\nquestion a m 5 1 -", "bad row 2 1"), ("load\n ", "bad row 1 1"),
            ("load\nquestion a m 5 1 -\n- x\n- x", "bad row 3 2"), ("show", TEXT), ("undo", "gone"),
        )

    def test_join(self):
        other = "question adds sums 5 1 -\n+ 9\n- 8\nquestion oceans earth 5 1 -\n+ seven\n- five\nused 3\nquestion zoo m 5 1 -\n+ a\n- b"
        desk = self.led(("join\n" + other, "6 questions; adds addsa; oceans seas"), ("names", "adds addsa dates seas zoo"))
        self.assertEqual(bank_of(str(desk)), joined_banks(bank_of(TEXT), bank_of(other))[0])
        self.led(("join", "6 questions"), ("join\n", "6 questions"), ("undo", "done"), ("undo", "done"), ("undo", "done"), desk=desk)
        self.led(("show", TEXT), ("join\n" + TEXT, "4 questions"), ("show", TEXT), ("undo", "done"), ("undo", "gone"), desk=desk)

    def test_join_refused(self):
        sixty = "\n".join("question " + name + " m 5 1 -\n+ " + name + "\n- no" for name in some_names(60))
        self.led(
            ("join\n" + sixty, "more than 60"), ("join\nx", "bad row 1 1"), ("join\n" + TEXT + "\n", "bad row 16 1"), ("show", TEXT),
            ("undo", "gone"),
        )
        self.led(("join\n" + sixty, "60 questions"), ("join\n" + TEXT, "more than 60"), ("undo", "done"), ("undo", "gone"), desk=Desk())

    def test_out_and_in(self):
        desk = self.led(
            ("names", "adds dates seas"), ("out adds no good at all", "done"), ("names", "dates seas"), ("in kings", "done"),
            ("names", "dates kings seas"), ("in kings", "gone"), ("in seas", "gone"), ("in nobody", "nothing called 'nobody'"),
            ("out nobody x", "nothing called 'nobody'"), ("out nobody " + "x" * 31, "nothing called 'nobody'"),
            ("out adds " + "x" * 31, "bad text"), ("out seas " + "x" * 30, "done"), ("out Seas x", "nothing called 'Seas'"),
            ("in it's", 'nothing called "it\'s"'), ("in \\", "nothing called '\\\\'"), ("out adds 5" + chr(37), "bad text"),
        )
        self.assertEqual(bank_of(str(desk)).outs(), [("adds", "no good at all"), ("seas", "x" * 30)])
        self.led(("out adds better", "done"), desk=desk)
        self.assertEqual(bank_of(str(desk)).outs()[0], ("adds", "better"))

    def test_drop(self):
        self.led(
            ("drop adds", "done"), ("drop adds", "nothing called 'adds'"), ("drop kings", "done"), ("names", "dates seas"),
            ("drop dates", "done"), ("drop seas", "done"), ("names", "none"), ("show", "none"), ("drop x", "nothing called 'x'"),
        )

    def test_use_and_unuse(self):
        desk = self.led(
            ("use adds 5", "done"), ("use adds 9999", "done"), ("use adds 0", "done"), ("use adds 5", "done"), ("unuse adds 5", "done"),
            ("unuse adds 5", "gone"), ("use nobody 5", "nothing called 'nobody'"), ("unuse nobody 5", "nothing called 'nobody'"),
            ("use kings 7", "done"), ("unuse seas 7", "gone"), ("unuse seas 9999", "gone"),
        )
        self.assertEqual(bank_of(str(desk)).days_of("adds"), [0, 10, 9999])

    def test_wishes(self):
        desk = self.led(
            ("wishes", "none"), ("wish many sums 2 4", "done"), ("wish kin 0 0", "done"), ("wish with adds 1 1", "done"),
            ("wishes", "many sums 2 4, kin 0 0, with adds 1 1"), ("unwish 1", "done"), ("wishes", "many sums 2 4, with adds 1 1"),
            ("unwish 2", "no place"), ("unwish 9999", "no place"), ("unwish 0", "done"), ("unwish 0", "done"), ("unwish 0", "no place"),
            ("wishes", "none"),
        )
        self.led(
            ("wish x", "bad wish word"), ("wish many", "bad wish word"), ("wish many 0", "bad wish word"), ("wish x 0 1", "bad wish word"),
            ("wish many 1 0", "bad wish most"), ("wish many x 0 0 0", "bad wish word"), ("wish with 0 1", "bad wish what"),
            ("wish many A 0 1", "bad wish what"), ("wish many 0 01", "bad wish most"), ("wish many 00 1", "bad wish least"),
            ("wish many 1000 1", "bad wish least"), ("wish rest a 0 1", "bad wish what"), ("wishes", "none"), desk=desk,
        )

    def test_a_thirteenth_wish(self):
        desk = self.led(*[("wish many 0 1", "done")] * 12)
        self.led(
            ("wish many 0 1", "bad wish 12"), ("wish x", "bad wish word"), ("wishes", ", ".join(["many 0 1"] * 12)),
            ("unwish 11", "done"), ("wish kin 0 0", "done"), ("wish kin 0 0", "bad wish 12"), ("undo", "done"), desk=desk,
        )
        self.assertEqual(desk.said("wishes"), ", ".join(["many 0 1"] * 11))

    def test_day(self):
        self.led(
            ("wish rest 5 0", "done"), ("sums adds", "rest 5 0: 0"), ("day 14", "done"), ("sums adds", "rest 5 0: 1"), ("day 15", "done"),
            ("sums adds", "rest 5 0: 0"), ("day 9999", "done"), ("day 0", "done"), ("undo", "done"), ("undo", "done"), ("undo", "done"),
            ("sums adds", "rest 5 0: 1"), ("paper 3", "unmet 0"), ("papers 3", "none"), ("paper 2", "dates seas"),
            ("papers 2", "dates seas"),
        )

    def test_paper(self):
        self.led(
            ("paper 1", "adds"), ("paper 2", "adds dates"), ("paper 3", "adds dates seas"), ("paper 4", "unmet"), ("paper 14", "unmet"),
            ("paper 0", "no place"), ("paper 15", "no place"), ("paper 9999", "no place"), ("wish many 0 9", "done"),
            ("wish with adds 0 0", "done"), ("paper 2", "dates seas"), ("paper 3", "unmet 1"), ("wish many earth 0 0", "done"),
            ("paper 1", "dates"), ("paper 2", "unmet 1 2"), ("paper 4", "unmet"),
        )
        self.led(("paper 1", "unmet"), ("paper 15", "no place"), desk=Desk())
        fifteen = Desk(plain_bank(some_names(15)))
        self.led(("paper 2", "more than 14"), ("paper 0", "no place"), ("out aa x", "done"), ("paper 2", "ab ac"), desk=fifteen)

    def test_papers(self):
        self.led(
            ("papers 2", "adds dates"), ("papers 3", "adds dates seas"), ("papers 4", "none"), ("papers 12", "none"),
            ("papers 1", "no place"), ("papers 13", "no place"), ("papers 0", "no place"), ("in kings", "done"),
            ("papers 2", "adds dates, kings seas"), ("wish with adds 0 0", "done"), ("papers 2", "dates kings"),
        )
        self.led(("papers 2", "none"), desk=Desk())
        bank = plain_bank(some_names(13))
        thirteen = self.led(("papers 2", "more than 12"), ("papers 1", "no place"), ("drop aa", "done"), desk=Desk(bank))
        bank.dropped("aa")
        self.assertEqual(thirteen.said("papers 3"), ", ".join(" ".join(paper) for paper in most_row(bank, [], 3)))

    def test_sums(self):
        self.led(
            ("sums adds", "none"), ("wish many sums 2 4", "done"), ("wish toil 0 9", "done"), ("wish many sums 2 4", "done"),
            ("sums adds dates", "many sums 2 4: 1, toil 0 9: 12"), ("sums seas", "many sums 2 4: 0, toil 0 9: 1"),
            ("sums seas adds", "bad paper"), ("sums adds adds", "bad paper"), ("sums adds kings", "bad paper"), ("sums x", "bad paper"),
            ("sums X", "bad paper"), ("sums 5", "bad paper"), ("sums " + " ".join(some_names(41)), "bad paper"),
        )
        self.led(("sums x", "bad paper"), desk=Desk())

    def test_copy_and_key(self):
        bank = bank_of(TEXT)
        paper = ("adds", "dates", "seas")
        desk = a_desk()
        for number in (0, 1, 2, 3, 7, 999):
            copy = Copy(bank, paper, number)
            line = " " + str(number) + " " + " ".join(paper)
            self.led(("copy" + line, str(copy)), ("key" + line, sheet_text(copy, key_sheet(copy))), desk=desk)
        self.led(
            ("copy 0 adds", "adds"), ("copy 1 adds dates seas", "dates seas adds"), ("key 0 adds dates seas", "b a b"),
            ("key 0 adds", "b"), desk=desk,
        )
        for word in ("copy", "key"):
            self.led(
                (word + " 1000 adds", "no place"), (word + " 9999 adds", "no place"), (word + " 0 seas adds", "bad paper"),
                (word + " 1000 seas adds", "bad paper"), (word + " 1000 kings", "bad paper"), (word + " 0 kings", "bad paper"),
                (word + " 0 x", "bad paper"), (word + " 0 5", "bad paper"), desk=desk,
            )

    def test_bad_lines(self):
        desk = self.led(("wish many 0 9", "done"))
        before = state(desk)
        for line in BAD_LINES + tuple(no_texts()) + (Alike(),):
            self.assertEqual(desk.said(line), "bad line", repr(line)[:80])
        self.assertEqual(state(desk), before)
        self.led(("undo", "done"), ("undo", "gone"), desk=desk)

    def test_names_and_reasons_that_are_words_of_lines(self):
        desk = self.led(("day 5", "done"))
        for word in ("undo", "load", "join", "show", "day", "wish", "drop", "in", "out"):
            called = "nothing called '" + word + "'"
            self.led(
                ("in " + word, called), ("drop " + word, called), ("use " + word + " 5", called), ("out " + word + " x", called),
                ("sums " + word, "bad paper"), ("copy 0 " + word, "bad paper"), ("key 0 " + word, "bad paper"),
                ("wish " + word, "bad wish word"), ("paper " + word, "bad line"), ("in " + word + "\nx", "bad line"),
                ("out adds " + word + "\n" + TEXT, "bad line"), ("out adds " + word, "done"), desk=desk,
            )
        self.assertEqual(bank_of(str(desk)).outs()[0], ("adds", "out"))

    def test_bad_line_ahead_of_all_else(self):
        self.led(
            ("use nobody 05", "bad line"), ("unwish 05", "bad line"), ("copy 05 x", "bad line"), ("paper 015", "bad line"),
            ("undo x", "bad line"), ("in nobody else", "bad line"),
        )


class Undo(Lines):
    def test_each_one_by_one_to_the_first(self):
        desk = a_desk()
        states = []
        for line in DEEDS:
            states.append(state(desk))
            self.assertIn(desk.said(line), ("done", "0 questions", "4 questions"), line)
            desk.said("show")
        for before in reversed(states):
            self.led(("undo", "done"), desk=desk)
            self.assertEqual(state(desk), before)
        self.led(("undo", "gone"), ("undo", "gone"), desk=desk)
        self.assertEqual(desk, a_desk())

    def test_deeds_that_change_nothing_stand_all_the_same(self):
        desk = self.led(
            ("day 5", "done"), ("day 5", "done"), ("use adds 10", "done"), ("out kings two are right", "done"),
            ("load\n" + TEXT, "4 questions"), ("join", "4 questions"),
        )
        self.led(*[("undo", "done")] * 5, desk=desk)
        other = a_desk()
        other.said("day 5")
        self.assertEqual(desk, other)
        self.led(("undo", "done"), ("undo", "gone"), desk=desk)

    def test_what_is_refused_and_what_is_asked_is_no_deed(self):
        desk = self.led(
            ("day 5", "done"), ("use x 5", "nothing called 'x'"), ("in seas", "gone"), ("wish x", "bad wish word"), ("unwish 0", "no place"),
            ("load\nx", "bad row 1 1"), ("out adds " + "x" * 31, "bad text"), ("show", TEXT), ("names", "adds dates seas"),
            ("paper 2", "adds dates"), ("copy 0 adds", "adds"), ("sums adds", "none"), ("bad", "bad line"),
        )
        self.led(("undo", "done"), ("undo", "gone"), desk=desk)

    def test_goes_on_behind_it(self):
        desk = self.led(("day 5", "done"), ("day 6", "done"), ("undo", "done"), ("wish kin 0 0", "done"), ("undo", "done"), ("undo", "done"))
        self.led(("undo", "gone"), desk=desk)

    def test_deeds_by_chance(self):
        numbers = chance(73)
        lines = DEEDS + ("use seas 9", "unuse seas 9", "in adds", "wish kin 0 0", "unwish 1", "drop seas", "out seas x", "day 3")
        for _ in range(15):
            desk = a_desk()
            stand = []
            for _ in range(60):
                if numbers.randint(0, 2) == 0:
                    self.assertEqual(desk.said("undo"), "done" if stand else "gone")
                    stand = stand[:-1]
                else:
                    line = numbers.choice(lines)
                    told = desk.said(line)
                    if told == "done" or told.endswith("questions"):
                        stand.append(line)
                other = a_desk()
                for line in stand:
                    other.said(line)
                self.assertEqual(desk, other)
                self.assertEqual(state(desk), state(other))


class Equal(Lines):
    def test_whatever_was_undone(self):
        desk = self.led(("day 5", "done"), ("drop adds", "done"), ("undo", "done"), ("day 0", "done"))
        self.assertTrue(desk == a_desk())
        self.assertFalse(desk != a_desk())

    def test_one_thing_otherwise(self):
        for line in ("day 5", "wish kin 0 0", "use adds 4", "out seas x", "drop dates", "load"):
            desk = a_desk()
            desk.said(line)
            self.assertTrue(desk != a_desk(), line)
            self.assertFalse(a_desk() == desk, line)
        one, other = a_desk(), a_desk()
        for line in ("wish kin 0 0", "wish many 0 1"):
            one.said(line)
        for line in ("wish many 0 1", "wish kin 0 0"):
            other.said(line)
        self.assertNotEqual(one, other)

    def test_to_what_is_no_desk(self):
        for thing in strangers() + [[], (), a_question(), bank_of(TEXT), TEXT]:
            self.assertIs(a_desk() == thing, False)
            self.assertIs(a_desk() != thing, True)

    def test_length_text_and_shown(self):
        desk = a_desk()
        self.assertEqual((len(desk), str(desk), repr(desk)), (3, TEXT, "Desk(3)"))
        desk.said("in kings")
        self.assertEqual((len(desk), repr(desk)), (4, "Desk(4)"))
        self.assertEqual(str(desk), bank_text(bank_of(str(desk))))


class InTime(unittest.TestCase):
    def test_two_hundred_deeds_undone(self):
        bank = Bank([Question(name, "m", (name, "no", "yes", "so", "thus", "why")) for name in some_names(60)])
        desk = Desk(bank)
        start = time.perf_counter()
        for number in range(200):
            self.assertEqual(desk.said("use " + some_names(60)[number % 60] + " " + str(number)), "done")
        for _ in range(200):
            self.assertEqual(desk.said("undo"), "done")
        self.assertEqual(desk, Desk(bank))
        for _ in range(10):
            self.assertEqual(desk.said("load\n" + desk.said("show")), "60 questions")
            self.assertEqual(desk.said("join\n" + desk.said("show")), "60 questions")
        self.assertEqual(str(desk), bank_text(bank))
        self.assertLess(time.perf_counter() - start, 4)


if __name__ == "__main__":
    unittest.main()
