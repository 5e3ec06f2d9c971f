"""The package's own files: those rules of their language that can be seen file by file, and the interface."""

import ast
import builtins
import inspect
import pathlib
import re
import unittest

from askednumbers import asking

PACKAGE = pathlib.Path(__file__).resolve().parent.parent / "askednumbers"

ALLOWED_BUILTINS = """
    len range enumerate zip min max sum abs sorted reversed int str bool list tuple dict set frozenset isinstance
    ord repr any all divmod Exception ValueError TypeError KeyError IndexError LookupError ZeroDivisionError
    ArithmeticError OverflowError RuntimeError NotImplementedError AttributeError StopIteration
""".split()

REFUSED_WORDS = """
    type typing typing_extensions enum Enum IntEnum StrEnum Flag IntFlag Generic Protocol ABC ABCMeta namedtuple
    NamedTuple TypedDict TYPE_CHECKING abstractmethod register mro elements open input version_info with_traceback
    add_note
""".split()

REFUSED_NODES = (
    ast.Div, ast.JoinedStr, ast.With, ast.Match, ast.Delete, ast.Global, ast.Nonlocal, ast.Assert, ast.Yield,
    ast.YieldFrom, ast.Await, ast.AsyncFunctionDef, ast.AsyncFor, ast.AsyncWith, ast.SetComp, ast.DictComp,
    ast.GeneratorExp, ast.NamedExpr, ast.Starred, ast.Set, ast.Import,
)


def files():
    return sorted(PACKAGE.glob("*.py"))


def nodes():
    for file in files():
        for node in ast.walk(ast.parse(file.read_text())):
            yield file.name, node


class Language(unittest.TestCase):
    def test_nothing_else_lies_in_the_package(self):
        lying = [path.name for path in PACKAGE.iterdir() if path.name != "__pycache__"]
        self.assertEqual(sorted(lying), sorted(file.name for file in files()))
        self.assertIn("__init__.py", lying)
        self.assertIn("asking.py", lying)

    def test_signs_and_sizes(self):
        for file in files():
            text = file.read_bytes()
            self.assertTrue(all(sign == 10 or 32 <= sign <= 126 for sign in text), file)
            lines = text.decode().split("\n")
            self.assertLessEqual(len(lines), 400, file)
            self.assertLessEqual(max(len(line) for line in lines), 120, file)

    def test_functions_are_short_and_plain(self):
        for name, node in nodes():
            if isinstance(node, ast.FunctionDef):
                self.assertLessEqual(node.end_lineno - node.lineno + 1, 40, (name, node.name))
                self.assertEqual(node.decorator_list, [], (name, node.name))

    def test_imports_are_the_package_s_own(self):
        for name, node in nodes():
            if isinstance(node, ast.ImportFrom):
                self.assertEqual(node.level, 0, name)
                self.assertTrue(node.module.startswith("askednumbers."), name)
                self.assertNotIn("*", [one.name for one in node.names], name)

    def test_no_float_and_no_refused_form(self):
        for name, node in nodes():
            self.assertNotIsInstance(node, REFUSED_NODES, (name, getattr(node, "lineno", None)))
            if isinstance(node, ast.Constant):
                self.assertIn(type(node.value), (int, str, bool, type(None)), (name, node.lineno))

    def test_words(self):
        for file in files():
            text = file.read_text()
            self.assertEqual(set(re.findall(r"\w+", text)) & set(REFUSED_WORDS), set(), file)
            self.assertIsNone(re.search("dataclass|overload|contextmanager", text), file)

    def test_names(self):
        for name, node in nodes():
            if isinstance(node, ast.Name):
                self.assertFalse(node.id.startswith("_"), (name, node.id))
                if isinstance(node.ctx, ast.Load):
                    self.assertTrue(node.id in ALLOWED_BUILTINS or not hasattr(builtins, node.id), (name, node.id))
                else:
                    self.assertFalse(hasattr(builtins, node.id), (name, node.id))
            if isinstance(node, ast.arg):
                self.assertFalse(hasattr(builtins, node.arg), (name, node.arg))


class Interface(unittest.TestCase):
    def test_names_and_arguments(self):
        self.assertEqual(list(inspect.signature(asking.root).parameters), ["a", "b", "most", "answers"])
        self.assertEqual(list(inspect.signature(asking.area).parameters), ["a", "b", "n", "answers"])
        self.assertEqual(list(inspect.signature(asking.rough).parameters), ["a", "b", "near", "answers"])
        self.assertEqual(list(inspect.signature(asking.least).parameters), ["a", "b", "most", "answers"])
        self.assertEqual(list(inspect.signature(asking.slope).parameters), ["x", "h", "answers"])
        self.assertEqual(list(inspect.signature(asking.walk).parameters), ["t", "y", "h", "n", "answers"])
        self.assertEqual(list(inspect.signature(asking.table).parameters), ["a", "b", "n", "answers"])


if __name__ == "__main__":
    unittest.main()
