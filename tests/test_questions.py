"""Point [2], paperkin/questions.py: questions and lists of them."""

import unittest

from paperkin.errors import BadKind, BadQuestion
from paperkin.questions import Question, by_toil, need_question, toil_sum
from tests.things import ANSWERS, Stranger, a_question, no_texts, no_whole_numbers, strangers

FIELDS = ("name", "matter", "answers", "right", "toil", "marks", "kin")
SIX = ("a", "b", "c", "d", "e", "f")
NO_NAMES = ("abcdefghi", "A", "a b", " a", "a1", "a\n", "ab%")


def fields_of(question):
    return tuple(getattr(question, field) for field in FIELDS)


class Refusals(unittest.TestCase):
    def refused(self, part, *told, **more):
        with self.assertRaises(BadQuestion, msg=repr((told, more))[:80]) as caught:
            Question(*told, **more)
        self.assertEqual(caught.exception.part, part)

    def test_name(self):
        for name in ("a", "abcdefgh"):
            self.assertEqual(Question(name, "sums", ANSWERS).name, name)
        for thing in [""] + list(NO_NAMES) + no_texts():
            self.refused("name", thing, "sums", ANSWERS)

    def test_matter(self):
        for matter in ("a", "abcdefgh"):
            self.assertEqual(Question("adds", matter, ANSWERS).matter, matter)
        for thing in [""] + list(NO_NAMES) + no_texts():
            self.refused("matter", "adds", thing, ANSWERS)

    def test_answers(self):
        for answers in (("a", "b"), SIX, ("x" * 30, "x" * 29), ("a b", "~"), ("A", "a")):
            self.assertEqual(Question("adds", "sums", answers).answers, answers)
        for thing in (
            (), ("a",), SIX + ("g",), ["a", "b"], list(SIX), ("a", "a"), ("a", "b", "a"), ("a", ""), ("", "a"),
            ("a", " b"), ("a", "b "), ("a", "x" * 31), ("a", "b%"), ("a", "b\n"), ("a", "b\tc"), ("a", 1), (1, 2),
            ("a", None), ("a", ["b"]), (["a"], ["b"]), ({}, {}), ("a", ("b",)), ("a", b"b"), {"a": 1, "b": 2}, "ab",
            ("a", Stranger()), ("a", True),
        ):
            self.refused("answers", "adds", "sums", thing)
        for thing in strangers() + no_whole_numbers():
            self.refused("answers", "adds", "sums", thing)

    def test_right(self):
        for right in (0, 1, 2):
            self.assertEqual(Question("adds", "sums", ANSWERS, right).right, right)
        self.assertEqual(Question("adds", "sums", SIX, 5).right, 5)
        for thing in [-1, 3, 4, 10 ** 3999] + no_whole_numbers():
            self.refused("right", "adds", "sums", ANSWERS, thing)
        self.refused("right", "adds", "sums", ("a", "b"), 2)
        self.refused("right", "adds", "sums", SIX, 6)

    def test_toil(self):
        for toil in range(1, 10):
            self.assertEqual(Question("adds", "sums", ANSWERS, 0, toil).toil, toil)
        for thing in [-1, 0, 10, 10 ** 3999] + no_whole_numbers():
            self.refused("toil", "adds", "sums", ANSWERS, 0, thing)

    def test_marks(self):
        for marks in range(1, 10):
            self.assertEqual(Question("adds", "sums", ANSWERS, 0, 5, marks).marks, marks)
        for thing in [-1, 0, 10, 10 ** 3999] + no_whole_numbers():
            self.refused("marks", "adds", "sums", ANSWERS, 0, 5, thing)

    def test_kin(self):
        for kin in ("", "a", "abcdefgh"):
            self.assertEqual(Question("adds", "sums", ANSWERS, 0, 5, 1, kin).kin, kin)
        for thing in [" "] + list(NO_NAMES) + no_texts():
            self.refused("kin", "adds", "sums", ANSWERS, 0, 5, 1, thing)

    def test_the_first_is_refused(self):
        good = {"name": "adds", "matter": "sums", "answers": ANSWERS, "right": 1, "toil": 2, "marks": 3, "kin": "ab"}
        for at, first in enumerate(FIELDS):
            for second in FIELDS[at + 1:]:
                wrong = dict(good)
                wrong[first] = wrong[second] = None
                self.refused(first, **wrong)
                wrong[first] = wrong[second] = 77
                self.refused(first, **wrong)
        self.refused("name", None, None, None, None, None, None, None)


class Fields(unittest.TestCase):
    def test_defaults(self):
        question = Question("adds", "sums", ANSWERS)
        self.assertEqual(fields_of(question), ("adds", "sums", ANSWERS, 0, 5, 1, ""))

    def test_by_place(self):
        question = Question("adds", "sums", ANSWERS, 2, 7, 3, "twos")
        self.assertEqual(fields_of(question), ("adds", "sums", ANSWERS, 2, 7, 3, "twos"))

    def test_by_name_in_another_order(self):
        question = Question(kin="twos", marks=3, toil=7, right=2, answers=ANSWERS, matter="sums", name="adds")
        self.assertEqual(fields_of(question), ("adds", "sums", ANSWERS, 2, 7, 3, "twos"))
        question = Question("adds", marks=9, answers=ANSWERS, matter="sums")
        self.assertEqual(fields_of(question), ("adds", "sums", ANSWERS, 0, 5, 9, ""))

    def test_nothing_changes_it(self):
        told = ["one", "two", "three"]
        question = Question("adds", "sums", tuple(told), 1, 6, 2, "twos")
        told.append("four")
        before = fields_of(question)
        self.assertIsInstance(question.answers, tuple)
        question.turned(1)
        question.changed(0, 1, 1, "")
        question.is_kin(a_question())
        question.answer()
        listed = by_toil([question])
        listed.clear()
        toil_sum([question])
        need_question(question)
        self.assertEqual((len(question), str(question), repr(question)), (3, str(question), repr(question)))
        for refused in (lambda: question.turned(None), lambda: question.changed(9), lambda: question.is_kin(None)):
            with self.assertRaises((BadKind, BadQuestion)):
                refused()
        self.assertEqual(fields_of(question), before)


class Alike(unittest.TestCase):
    def test_equal_just_if_all_seven_are(self):
        good = {"name": "adds", "matter": "sums", "answers": ANSWERS, "right": 1, "toil": 2, "marks": 3, "kin": "ab"}
        other = {
            "name": "addy", "matter": "sumy", "answers": ("two", "one", "three"), "right": 2, "toil": 3, "marks": 2,
            "kin": "",
        }
        one = Question(**good)
        self.assertTrue(one == Question(**good))
        self.assertFalse(one != Question(**good))
        self.assertTrue(one == one)
        for field in FIELDS:
            unlike = Question(**{**good, field: other[field]})
            self.assertFalse(one == unlike, field)
            self.assertFalse(unlike == one, field)
            self.assertTrue(one != unlike, field)

    def test_to_what_is_no_question_none_is(self):
        question = a_question()
        told = ("adds", "sums", ANSWERS, 0, 5, 1, "")
        for thing in strangers() + no_texts()[:-4] + [told, list(told), str(question), repr(question), "adds"]:
            if not isinstance(thing, Question):
                self.assertIs(question == thing, False)
                self.assertIs(question != thing, True)
                self.assertIs(thing == question, False)

    def test_length(self):
        for many in range(2, 7):
            self.assertEqual(len(a_question(answers=SIX[:many])), many)

    def test_text(self):
        self.assertEqual(str(Question("adds", "sums", ANSWERS)), "adds: sums, 5, 1")
        self.assertEqual(str(a_question("b", "m", 9, 3)), "b: m, 9, 3")
        self.assertEqual(str(a_question(kin="twos", toil=7, marks=2)), "adds: sums, 7, 2, of kin twos")

    def test_shown(self):
        self.assertEqual(repr(a_question()), "Question(adds)")
        self.assertEqual(repr([a_question("b", kin="c")]), "[Question(b)]")


class Turned(unittest.TestCase):
    def test_answer(self):
        for right, answer in enumerate(ANSWERS):
            self.assertEqual(a_question(right=right).answer(), answer)

    def test_turned(self):
        question = Question("adds", "sums", ("a", "b", "c", "d"), 1, 7, 3, "twos")
        for by, answers, right in (
            (0, ("a", "b", "c", "d"), 1), (1, ("b", "c", "d", "a"), 0), (2, ("c", "d", "a", "b"), 3),
            (3, ("d", "a", "b", "c"), 2), (4, ("a", "b", "c", "d"), 1), (5, ("b", "c", "d", "a"), 0),
            (-1, ("d", "a", "b", "c"), 2), (-2, ("c", "d", "a", "b"), 3), (-4, ("a", "b", "c", "d"), 1),
            (-5, ("d", "a", "b", "c"), 2), (400002, ("c", "d", "a", "b"), 3),
            (10 ** 3999 + 1, ("b", "c", "d", "a"), 0), (-(10 ** 3999) - 1, ("d", "a", "b", "c"), 2),
        ):
            turned = question.turned(by)
            self.assertIsInstance(turned, Question)
            self.assertEqual(fields_of(turned), ("adds", "sums", answers, right, 7, 3, "twos"))
            self.assertEqual(turned.answer(), "b")
            self.assertEqual(fields_of(question), ("adds", "sums", ("a", "b", "c", "d"), 1, 7, 3, "twos"))
        self.assertEqual(question.turned(by=1).answers, ("b", "c", "d", "a"))

    def test_turned_is_another_one(self):
        question = a_question()
        self.assertIsNot(question.turned(0), question)
        self.assertEqual(question.turned(0), question)

    def test_of_no_whole_number(self):
        for thing in no_whole_numbers():
            with self.assertRaises(BadKind) as caught:
                a_question().turned(thing)
            self.assertEqual(caught.exception.wanted, "number")


class Changed(unittest.TestCase):
    def test_each_alone(self):
        question = Question("adds", "sums", ANSWERS, 1, 6, 2, "twos")
        for more, told in (
            ({}, ("adds", "sums", ANSWERS, 1, 6, 2, "twos")),
            ({"right": 0}, ("adds", "sums", ANSWERS, 0, 6, 2, "twos")),
            ({"toil": 9}, ("adds", "sums", ANSWERS, 1, 9, 2, "twos")),
            ({"marks": 5}, ("adds", "sums", ANSWERS, 1, 6, 5, "twos")),
            ({"kin": ""}, ("adds", "sums", ANSWERS, 1, 6, 2, "")),
            ({"kin": "b", "right": 2}, ("adds", "sums", ANSWERS, 2, 6, 2, "b")),
        ):
            other = question.changed(**more)
            self.assertEqual(fields_of(other), told)
            self.assertIsNot(other, question)
        self.assertEqual(fields_of(question), ("adds", "sums", ANSWERS, 1, 6, 2, "twos"))

    def test_by_place(self):
        other = a_question(kin="twos").changed(2, 3, 4, "")
        self.assertEqual(fields_of(other), ("adds", "sums", ANSWERS, 2, 3, 4, ""))

    def test_refusals(self):
        question = a_question(right=1)
        for more, part in (
            ({"right": 3}, "right"), ({"right": -1}, "right"), ({"toil": 0}, "toil"), ({"toil": 10}, "toil"),
            ({"marks": 0}, "marks"), ({"marks": 10}, "marks"), ({"kin": "A"}, "kin"), ({"kin": 0}, "kin"),
            ({"right": True}, "right"), ({"right": False}, "right"), ({"toil": ""}, "toil"), ({"marks": []}, "marks"),
            ({"kin": "A", "marks": 0, "toil": 0, "right": 9}, "right"), ({"kin": "A", "marks": 0, "toil": 0}, "toil"),
            ({"kin": "A", "marks": 0}, "marks"), ({"kin": []}, "kin"), ({"kin": False}, "kin"), ({"kin": ()}, "kin"),
        ):
            with self.assertRaises(BadQuestion) as caught:
                question.changed(**more)
            self.assertEqual(caught.exception.part, part)

    def test_of_anything(self):
        for thing in no_whole_numbers():
            if thing is None:
                continue
            for part in ("right", "toil", "marks"):
                with self.assertRaises(BadQuestion) as caught:
                    a_question().changed(**{part: thing})
                self.assertEqual(caught.exception.part, part)


class Kin(unittest.TestCase):
    def test_is_kin(self):
        for one, other, told in (
            (("a", ""), ("b", ""), False), (("a", "k"), ("b", "k"), True), (("a", "k"), ("b", "l"), False),
            (("a", "k"), ("b", ""), False), (("a", ""), ("b", "k"), False), (("a", ""), ("a", ""), True),
            (("a", "k"), ("a", "l"), True), (("a", "b"), ("b", "a"), False), (("a", ""), ("b", "a"), False),
        ):
            first = a_question(one[0], kin=one[1])
            second = a_question(other[0], kin=other[1], matter="other", toil=1)
            self.assertIs(first.is_kin(second), told)
            self.assertIs(second.is_kin(other=first), told)
        self.assertIs(a_question().is_kin(a_question(matter="b", toil=2)), True)
        self.assertIs(a_question("a").is_kin(a_question("b")), False)

    def test_of_anything(self):
        for thing in strangers() + [[], (), [a_question()], (a_question(),)]:
            with self.assertRaises(BadKind) as caught:
                a_question().is_kin(thing)
            self.assertEqual(caught.exception.wanted, "Question")

    def test_need_question(self):
        self.assertIsNone(need_question(a_question()))
        self.assertIsNone(need_question(thing=a_question()))
        for thing in strangers() + [[], (), [a_question()], (a_question(),)]:
            with self.assertRaises(BadKind) as caught:
                need_question(thing)
            self.assertEqual(caught.exception.wanted, "Question")


class Lists(unittest.TestCase):
    def test_by_toil(self):
        one = a_question("b", "m", 5)
        two = a_question("a", "n", 5)
        three = a_question("z", "z", 1)
        four = a_question("a", "m", 5)
        five = a_question("a", "a", 9)
        told = [one, two, five, three, four]
        ordered = [three, four, one, two, five]
        self.assertEqual(by_toil(told), ordered)
        self.assertEqual(by_toil(tuple(told)), ordered)
        self.assertIsInstance(by_toil(tuple(told)), list)
        self.assertEqual(by_toil(questions=told), ordered)
        self.assertEqual(told, [one, two, five, three, four])
        self.assertEqual(by_toil([]), [])
        self.assertEqual(by_toil(()), [])

    def test_such_as_are_alike_stay_as_they_stood(self):
        rows = [a_question("a", "m", 5, marks) for marks in (3, 1, 2)]
        self.assertEqual([each.marks for each in by_toil(rows)], [3, 1, 2])
        self.assertEqual([each.marks for each in by_toil(rows[::-1])], [2, 1, 3])
        rows = [a_question("a", "m", 5, kin=kin) for kin in ("z", "", "b")] + [a_question("a", "m", 4)]
        self.assertEqual([each.kin for each in by_toil(rows)], ["", "z", "", "b"])

    def test_the_list_is_new(self):
        rows = [a_question("a"), a_question("b")]
        told = by_toil(rows)
        self.assertIsNot(told, rows)
        told.clear()
        self.assertEqual(len(rows), 2)
        self.assertEqual(len(by_toil(rows)), 2)

    def test_toil_sum(self):
        rows = [a_question("a", toil=9), a_question("b", toil=1), a_question("a", toil=4)]
        self.assertEqual(toil_sum(rows), 14)
        self.assertEqual(toil_sum(tuple(rows)), 14)
        self.assertEqual(toil_sum(rows, 6), 20)
        self.assertEqual(toil_sum(rows, start=-20), -6)
        self.assertEqual(toil_sum(start=1, questions=rows), 15)
        self.assertEqual(toil_sum([]), 0)
        self.assertEqual(toil_sum((), 3), 3)
        self.assertEqual(toil_sum(rows, 10 ** 3999), 10 ** 3999 + 14)

    def test_of_no_list(self):
        for told in (by_toil, toil_sum):
            for thing in strangers() + [a_question(), range(0)]:
                with self.assertRaises(BadKind) as caught:
                    told(thing)
                self.assertEqual(caught.exception.wanted, "list")

    def test_of_what_is_no_question(self):
        for told in (by_toil, toil_sum):
            for thing in strangers() + [[], (), [a_question()]]:
                for rows in ([thing], (thing,), [a_question(), thing], [thing, a_question()]):
                    with self.assertRaises(BadKind) as caught:
                        told(rows)
                    self.assertEqual(caught.exception.wanted, "Question")


if __name__ == "__main__":
    unittest.main()
