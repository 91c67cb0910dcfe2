"""The package keeps to the small part of Python that it is written in, as far as a look at its files can tell."""

import ast
import builtins
import pathlib
import re
import unittest

PACKAGE = pathlib.Path(__file__).resolve().parent.parent / "agreeingtables"
FILES = sorted(path for path in PACKAGE.rglob("*") if "__pycache__" not in path.parts)

OUTSIDE = (
    ast.With, ast.Match, ast.Delete, ast.Global, ast.Nonlocal, ast.Assert, ast.Yield, ast.YieldFrom, ast.Await,
    ast.AsyncFunctionDef, ast.AsyncFor, ast.AsyncWith, ast.SetComp, ast.DictComp, ast.GeneratorExp, ast.NamedExpr,
    ast.Starred, ast.Div, ast.MatMult, ast.Set, ast.AnnAssign, ast.Import,
)
BUILT_IN = set("""
    len range enumerate zip min max sum abs sorted reversed int str bool list tuple dict set frozenset isinstance ord
    repr any all divmod Exception ValueError TypeError KeyError IndexError LookupError ZeroDivisionError
    ArithmeticError OverflowError RuntimeError NotImplementedError AttributeError StopIteration
""".split())
METHODS = set("""
    append clear copy count endswith extend find get index insert isalnum isalpha isdigit islower isspace isupper items
    join keys ljust lower lstrip partition pop remove replace reverse rfind rjust rpartition rsplit rstrip setdefault
    split splitlines startswith strip update upper values zfill bit_length
""".split())
WORDS = re.compile(
    r"\b(type|typing|typing_extensions|enum|Enum|IntEnum|StrEnum|Flag|IntFlag|Generic|Protocol|ABC|ABCMeta|namedtuple"
    r"|NamedTuple|TypedDict|TYPE_CHECKING|abstractmethod)\b|dataclass|overload|contextmanager")


def python_methods():
    return {name for kind in (str, int, list, dict, set, bytes, tuple) for name in dir(kind)}


class Language(unittest.TestCase):
    def each_tree(self):
        for path in FILES:
            tree = ast.parse(path.read_text(encoding="ascii"))
            with self.subTest(file=path.name):
                yield tree

    def test_only_plain_files_lie_in_the_package(self):
        self.assertIn("__init__.py", [path.name for path in FILES])
        for path in FILES:
            self.assertRegex(path.name, r"\A(__init__|[a-z][a-z0-9_]*)\.py\Z")

    def test_signs_and_sizes(self):
        for path in FILES:
            text = path.read_bytes().decode("ascii")
            with self.subTest(file=path.name):
                self.assertRegex(text, r"\A[ -~\n]*\Z")
                self.assertIsNone(WORDS.search(text))
                self.assertLessEqual(len(text.splitlines()), 400)
                self.assertLessEqual(max(map(len, text.splitlines())), 120)

    def test_functions_are_small_and_plain(self):
        for tree in self.each_tree():
            for node in ast.walk(tree):
                if isinstance(node, (ast.FunctionDef, ast.ClassDef)):
                    self.assertEqual(node.decorator_list, [], node.name)
                if isinstance(node, ast.FunctionDef):
                    self.assertLessEqual(node.end_lineno - node.lineno + 1, 40, node.name)
                    self.assertFalse(node.args.vararg or node.args.kwarg or node.args.kwonlyargs, node.name)

    def test_no_statement_or_value_from_outside(self):
        for tree in self.each_tree():
            for node in ast.walk(tree):
                self.assertNotIsInstance(node, OUTSIDE)
                if isinstance(node, (ast.For, ast.While)):
                    self.assertEqual(node.orelse, [])
                if isinstance(node, ast.Constant):
                    self.assertNotIsInstance(node.value, (float, complex, bytes))
                if isinstance(node, ast.ListComp):
                    self.assertEqual(len(node.generators), 1)

    def test_imports_are_the_packages_own(self):
        for tree in self.each_tree():
            for node in ast.walk(tree):
                if isinstance(node, ast.ImportFrom):
                    self.assertEqual(node.level, 0)
                    self.assertRegex(node.module, r"\Aagreeingtables\.[a-z]")

    def test_names(self):
        for tree in self.each_tree():
            for node in ast.walk(tree):
                if isinstance(node, ast.Name):
                    self.assertFalse(node.id.startswith("_"), node.id)
                    if hasattr(builtins, node.id):
                        self.assertIsInstance(node.ctx, ast.Load, node.id)
                        self.assertIn(node.id, BUILT_IN)
                if isinstance(node, ast.arg):
                    self.assertFalse(hasattr(builtins, node.arg), node.arg)

    def test_methods_of_pythons_own_values(self):
        for tree in self.each_tree():
            for node in ast.walk(tree):
                if isinstance(node, ast.Attribute) and node.attr in python_methods():
                    self.assertIn(node.attr, METHODS | {"add", "discard"})


if __name__ == "__main__":
    unittest.main()
