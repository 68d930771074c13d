"""The interface: each name stands in its file, with its arguments and defaults."""

import ast
import importlib
import inspect
import pathlib
import unittest

PACKAGE = pathlib.Path(__file__).resolve().parent.parent / "paperkin"

CLASSES = {
    "errors": {
        "BankError": {}, "BadWish": {"__init__": "(self, at)"}, "BadPaper": {"__init__": "(self, at)"},
        "BadSheet": {"__init__": "(self, at)"}, "BadLine": {"__init__": "(self, row, word)"}, "Gone": {},
        "BadQuestion": {"__init__": "(self, part)"}, "BadText": {}, "NoSuch": {"__init__": "(self, name)"},
        "NoPlace": {"__init__": "(self, at)"}, "TooMany": {"__init__": "(self, most)"},
        "BadKind": {"__init__": "(self, wanted)"}, "Unmet": {"__init__": "(self, lot, sums)"}, "NoAnswers": {},
        "Twice": {"__init__": "(self, name)"},
    },
    "questions": {
        "Question": {
            "__init__": "(self, name, matter, answers, right=0, toil=5, marks=1, kin='')",
            "answer": "(self)",
            "turned": "(self, by)",
            "changed": "(self, right=None, toil=None, marks=None, kin=None)",
            "is_kin": "(self, other)",
        },
    },
    "banks": {
        "Bank": {
            "__init__": "(self, questions=None)",
            "added": "(self, question)",
            "put": "(self, question)",
            "taken_out": "(self, name, why='wrong')",
            "put_back": "(self, name)",
            "dropped": "(self, name)",
            "used_on": "(self, name, day)",
            "unused_on": "(self, name, day)",
            "names": "(self)",
            "names_in": "(self)",
            "outs": "(self)",
            "question": "(self, name)",
            "days_of": "(self, name)",
            "last_day": "(self, name, day=9999)",
            "matters": "(self)",
            "found": "(self, matter='', least=1, most=9, kin='', day=None, rest=0)",
            "twin": "(self)",
        },
    },
    "wishes": {
        "Wish": {"__init__": "(self, word, what='', least=0, most=999)", "moved": "(self, by)"},
    },
    "shelves": {
        "Shelf": {
            "__init__": "(self, bank, wishes, size, day=0)",
            "takes_paper": "(self, paper=None)",
            "takes_row": "(self)",
            "gives_back": "(self, paper)",
            "taken_now": "(self)",
            "names_left": "(self)",
            "row_more": "(self)",
            "proof_more": "(self)",
            "lost_by": "(self, paper)",
            "shelf_twin": "(self)",
        },
    },
    "copies": {
        "Copy": {
            "__init__": "(self, bank, paper, number=0)",
            "told_names": "(self)",
            "question_at": "(self, place)",
            "origin": "(self, place)",
            "place_of": "(self, name)",
            "gone_on": "(self, by=1)",
            "first_one": "(self)",
        },
    },
    "sittings": {
        "Sitting": {
            "__init__": "(self, bank, paper, day=0, way='plain')",
            "handed": "(self, person)",
            "given": "(self, person, sheet)",
            "mended": "(self, person, sheet)",
            "found_wrong": "(self, name, verdict)",
            "if_wrong": "(self, name, verdict)",
            "undone": "(self)",
            "copy_of": "(self, person)",
            "sheet_by": "(self, person)",
            "marks_by": "(self, person)",
            "persons": "(self)",
            "results": "(self, least=0)",
            "verdicts": "(self)",
            "twin": "(self)",
        },
    },
    "desk": {"Desk": {"__init__": "(self, bank=None)", "said": "(self, line)"}},
}
FUNCTIONS = {
    "words": {
        "is_whole": "(thing, least=0, most=9999)",
        "is_name": "(thing)",
        "is_text": "(thing)",
        "need_name": "(thing)",
        "need_day": "(thing)",
        "squeezed": "(text)",
    },
    "questions": {
        "need_question": "(thing)",
        "by_toil": "(questions)",
        "toil_sum": "(questions, start=0)",
    },
    "banks": {"need_bank": "(thing)", "resting": "(bank, day, rest)"},
    "wishes": {"need_wish": "(thing)", "need_wishes": "(thing)", "wish_of": "(text)"},
    "papers": {
        "is_paper": "(thing)",
        "need_ready": "(bank, paper)",
        "paper_of": "(names)",
        "questions_of": "(bank, paper)",
        "shared": "(one, other)",
    },
    "sums": {
        "sum_by": "(bank, paper, wish, day=0)",
        "meets": "(bank, paper, wish, day=0)",
        "lacking": "(bank, paper, wishes, day=0)",
        "sums_of": "(bank, paper, wishes, day=0)",
    },
    "making": {
        "fit_papers": "(bank, wishes, size, day=0)",
        "first_paper": "(bank, wishes, size, day=0)",
        "best_paper": "(bank, wishes, size, day=0, key=None)",
    },
    "lots": {
        "least_lot": "(bank, wishes, size, day=0)",
        "all_lots": "(bank, wishes, size, day=0)",
        "lot_sums": "(bank, wishes, size, lot, day=0)",
        "in_the_way": "(bank, wishes, size, day=0)",
    },
    "lotcheck": {"check_lot": "(bank, wishes, size, lot, sums, day=0)"},
    "rows": {
        "most_row": "(bank, wishes, size, day=0, aside=None)",
        "scarce_names": "(bank, wishes, size, day=0, aside=None)",
        "are_apart": "(papers)",
        "left_over": "(bank, papers)",
    },
    "rowproof": {"row_proof": "(bank, wishes, size, day=0, aside=None)"},
    "rowcheck": {"check_row": "(bank, wishes, size, papers, proof, day=0, aside=None)"},
    "copies": {
        "need_copy": "(thing)",
        "round_length": "(copy)",
        "meet_at": "(one, other)",
        "apart_numbers": "(copy, many=2)",
    },
    "sheets": {
        "need_sheet": "(copy, sheet)",
        "led_back": "(copy, sheet)",
        "led_on": "(copy, sheet)",
        "key_sheet": "(copy)",
        "changed_at": "(copy, sheet, other)",
        "sheet_text": "(copy, sheet)",
        "sheet_of": "(copy, text)",
    },
    "marking": {
        "marks_of": "(copy, sheet, way='plain')",
        "marks_list": "(copy, sheet, way='plain')",
        "most_marks": "(copy)",
        "ranked": "(copies, sheets, way='plain')",
    },
    "sittings": {"need_sitting": "(thing)"},
    "toils": {
        "asked_by": "(sittings, name)",
        "found_toil": "(sittings, name)",
        "moved_toils": "(bank, sittings, steps=1)",
        "move_toils": "(bank, sittings, steps=1)",
    },
    "joining": {
        "are_twins": "(one, other)",
        "twins_of": "(bank, other)",
        "joined_banks": "(bank, other)",
        "free_name": "(names, name)",
    },
    "banktext": {
        "bank_text": "(bank)",
        "bank_of": "(text)",
        "paper_text": "(paper)",
        "paper_of_text": "(text)",
        "wishes_text": "(wishes)",
        "wishes_of_text": "(text)",
    },
}
# What a file must do without, also by way of the files that it needs.
NOT_NEEDED = {"lotcheck": ("making", "lots"), "rowcheck": ("rows", "rowproof", "shelves")}


def tree_of(name):
    return ast.parse((PACKAGE / (name + ".py")).read_text())


def defined_in(name, kind):
    return {node.name: node for node in tree_of(name).body if isinstance(node, kind)}


def needed_by(name):
    """The files that a file needs, also by way of others."""
    found = set()
    for node in ast.walk(tree_of(name)):
        if isinstance(node, ast.ImportFrom):
            other = node.module.split(".")[1]
            found |= {other} | needed_by(other)
    return found


class Interface(unittest.TestCase):
    def test_files_that_need_no_other_of_their_stage(self):
        for name, others in NOT_NEEDED.items():
            self.assertEqual(needed_by(name) & set(others), set(), name)

    def test_functions(self):
        for name, listed in FUNCTIONS.items():
            module = importlib.import_module("paperkin." + name)
            defined = defined_in(name, ast.FunctionDef)
            for function, told in listed.items():
                self.assertIn(function, defined, name)
                self.assertEqual(str(inspect.signature(getattr(module, function))), told, function)

    def test_classes_and_their_own_methods(self):
        for name, listed in CLASSES.items():
            module = importlib.import_module("paperkin." + name)
            defined = defined_in(name, ast.ClassDef)
            for each, methods in listed.items():
                self.assertIn(each, defined, name)
                own = [node.name for node in defined[each].body if isinstance(node, ast.FunctionDef)]
                for method, told in methods.items():
                    self.assertIn(method, own, each)
                    found = getattr(getattr(module, each), method)
                    self.assertEqual(str(inspect.signature(found)), told, each + "." + method)


if __name__ == "__main__":
    unittest.main()
