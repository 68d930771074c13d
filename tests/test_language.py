"""Those rules of the language of which each file can be asked by itself."""

import ast
import builtins
import pathlib
import re
import unittest

PACKAGE = pathlib.Path(__file__).resolve().parent.parent / "paperkin"

ALLOWED_BUILTINS = set("""
len range enumerate zip min max sum abs sorted reversed int str bool bytes list tuple dict set frozenset isinstance ord
repr any all divmod iter next Exception ValueError TypeError KeyError IndexError LookupError ZeroDivisionError
ArithmeticError OverflowError RuntimeError NotImplementedError AttributeError StopIteration NotImplemented
""".split())
ALLOWED_METHODS = set("""
append clear copy count endswith extend find get index insert isalnum isalpha isdigit islower isspace isupper items join
keys ljust lower lstrip partition pop remove replace reverse rfind rjust rpartition rsplit rstrip setdefault split
splitlines startswith strip update upper values zfill bit_length add discard isascii isprintable
""".split())
ALLOWED_SPECIAL = set("__init__ __eq__ __repr__ __str__ __len__".split())
BARRED_WORDS = """
type typing typing_extensions enum Enum IntEnum StrEnum Flag IntFlag Generic Protocol ABC ABCMeta namedtuple NamedTuple
TypedDict TYPE_CHECKING abstractmethod
""".split()
BARRED_PARTS = ("dataclass", "overload", "contextmanager")
BARRED_NAMES = set("""
register mro elements open input law version_info with_traceback add_note breakpoint builtins compile delattr dir eval
exec exit gc getattr globals hasattr help id importlib license locals os quit setattr super vars sys
""".split())
BARRED_NODES = (
    ast.Global, ast.AsyncFunctionDef, ast.AsyncFor, ast.AsyncWith, ast.Await, ast.Div, ast.MatMult, ast.Import,
)


def sources():
    return {path.name: path.read_text(encoding="utf-8") for path in sorted(PACKAGE.glob("*.py"))}


def trees():
    return {name: ast.parse(text) for name, text in sources().items()}


def nodes(kind):
    for name, tree in trees().items():
        for node in ast.walk(tree):
            if isinstance(node, kind):
                yield name, node


class Files(unittest.TestCase):
    def test_the_folder_holds_nothing_else(self):
        for path in PACKAGE.iterdir():
            if path.name != "__pycache__":
                self.assertRegex(path.name, r"^[a-z0-9_]+\.py$")
                self.assertTrue(path.is_file())
        self.assertIn("__init__.py", sources())

    def test_signs_and_sizes(self):
        for name, text in sources().items():
            rows = text.split("\n")
            self.assertLessEqual(len(rows), 399, name)
            self.assertEqual([sign for sign in text if sign != "\n" and not " " <= sign <= "~"], [], name)
            self.assertEqual([row for row in rows if len(row) > 120], [], name)

    def test_functions_are_small(self):
        for name, node in nodes((ast.FunctionDef, ast.Lambda)):
            self.assertLessEqual(node.end_lineno - node.lineno + 1, 40, name)

    def test_barred_words(self):
        for name, text in sources().items():
            found = [word for word in re.findall(r"\w+", text) if word in BARRED_WORDS]
            found += [part for part in BARRED_PARTS if part in text]
            self.assertEqual(found, [], name)

    def test_no_percent_sign_in_a_string(self):
        for name, node in nodes(ast.Constant):
            self.assertFalse(isinstance(node.value, str) and "%" in node.value, name)
            self.assertNotIsInstance(node.value, float, name)


class Modules(unittest.TestCase):
    def test_imports_name_the_file_that_defines_the_name(self):
        for name, node in nodes(ast.ImportFrom):
            self.assertEqual(node.level, 0, name)
            self.assertTrue(node.module.startswith("paperkin."), name)
            source = trees()[node.module.split(".")[1] + ".py"]
            defined = [each.name for each in source.body if isinstance(each, (ast.FunctionDef, ast.ClassDef))]
            defined += [each.targets[0].id for each in source.body if isinstance(each, ast.Assign)]
            for alias in node.names:
                self.assertIn(alias.name, defined, name)

    def test_each_name_is_bound_once(self):
        for name, tree in trees().items():
            bound = []
            for node in tree.body:
                if isinstance(node, (ast.FunctionDef, ast.ClassDef)):
                    bound.append(node.name)
                elif isinstance(node, ast.ImportFrom):
                    bound.extend([alias.asname or alias.name for alias in node.names])
                elif isinstance(node, ast.Assign):
                    bound.extend([target.id for target in node.targets])
                else:
                    self.assertIsInstance(node.value, ast.Constant, name)
            self.assertEqual(len(bound), len(set(bound)), name)

    def test_no_barred_statement(self):
        self.assertEqual([(name, ast.dump(node)) for name, node in nodes(BARRED_NODES)], [])

    def test_some_builtins_take_a_list_where_a_class_has_its_own_equality(self):
        for name, node in nodes(ast.Call):
            if isinstance(node.func, ast.Name) and node.func.id in ("any", "all", "min", "max", "sum", "sorted"):
                self.assertEqual([each for each in node.args if isinstance(each, ast.GeneratorExp)], [], name)
            if isinstance(node.func, ast.Attribute):
                self.assertNotEqual(node.func.attr, "sort", name)

    def test_is_stands_with_none_true_and_false(self):
        for name, node in nodes(ast.Compare):
            for sign, right in zip(node.ops, node.comparators):
                if isinstance(sign, (ast.Is, ast.IsNot)):
                    self.assertIsInstance(right, ast.Constant, name)
                    self.assertIn(right.value, (None, True, False), name)


class Names(unittest.TestCase):
    def bound_names(self, tree):
        for node in ast.walk(tree):
            if isinstance(node, (ast.FunctionDef, ast.ClassDef)):
                yield node.name
            elif isinstance(node, ast.arg):
                yield node.arg
            elif isinstance(node, ast.Name) and isinstance(node.ctx, ast.Store):
                yield node.id

    def test_plain_names_that_are_no_builtins(self):
        for file, tree in trees().items():
            for name in self.bound_names(tree):
                if name in ALLOWED_SPECIAL:
                    continue
                self.assertFalse(name.startswith("_"), (file, name))
                self.assertFalse(hasattr(builtins, name), (file, name))
                self.assertNotIn(name, BARRED_NAMES, file)

    def test_builtins_that_are_used(self):
        for file, node in nodes(ast.Name):
            if hasattr(builtins, node.id):
                self.assertIn(node.id, ALLOWED_BUILTINS, file)

    def test_methods_that_are_called(self):
        own = {node.name for _, node in nodes(ast.FunctionDef)}
        for file, node in nodes(ast.Call):
            if isinstance(node.func, ast.Attribute):
                self.assertIn(node.func.attr, own | ALLOWED_METHODS, (file, node.lineno))

    def test_no_name_is_a_method_and_an_attribute(self):
        methods = {node.name for _, each in nodes(ast.ClassDef) for node in each.body
                   if isinstance(node, ast.FunctionDef)}
        fields = {node.attr for _, node in nodes(ast.Attribute) if isinstance(node.ctx, ast.Store)}
        self.assertEqual(methods & fields, set())
        read = {node.attr for _, node in nodes(ast.Attribute)} - methods - ALLOWED_METHODS
        self.assertEqual(read - fields, set())


if __name__ == "__main__":
    unittest.main()
