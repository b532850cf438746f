"""The package's files keep to the part of Python that the program is written in, as far as their form shows it."""

import ast
import builtins
import pathlib
import re
import unittest

PACKAGE = pathlib.Path(__file__).resolve().parent.parent / "hearhall"

BUILT_IN = set("""len range enumerate zip min max sum abs sorted reversed int str bool list tuple dict set frozenset
isinstance ord repr any all divmod Exception ValueError TypeError KeyError IndexError LookupError ZeroDivisionError
ArithmeticError OverflowError RuntimeError NotImplementedError AttributeError StopIteration""".split())

METHODS = set("""append clear copy count endswith extend find get index insert isalnum isalpha isdigit islower isspace
isupper items join keys ljust lower lstrip partition pop remove replace reverse rfind rjust rpartition rsplit rstrip
setdefault split splitlines startswith strip update upper values zfill bit_length""".split())

OUT_OF_BOUNDS = (
    ast.With, ast.Match, ast.Delete, ast.Global, ast.Nonlocal, ast.Assert, ast.Yield, ast.YieldFrom, ast.Await,
    ast.AsyncFunctionDef, ast.AsyncFor, ast.AsyncWith, ast.NamedExpr, ast.Starred, ast.SetComp, ast.DictComp,
    ast.GeneratorExp, ast.Div, ast.MatMult, ast.Import, ast.TryStar)

SPECIAL_METHODS = ("__init__", "__eq__", "__repr__", "__str__", "__len__")

WORDS = re.compile(r"\b(type|typing|typing_extensions|enum|Enum|IntEnum|StrEnum|Flag|IntFlag|Generic|Protocol|ABC|"
                   r"ABCMeta|namedtuple|NamedTuple|TypedDict|TYPE_CHECKING|abstractmethod)\b|"
                   r"dataclass|overload|contextmanager")


def files():
    return sorted(path for path in PACKAGE.rglob("*") if "__pycache__" not in path.parts and path.is_file())


class Form(unittest.TestCase):
    def test_files(self):
        self.assertIn(PACKAGE / "__init__.py", files())
        for path in files():
            self.assertRegex(path.name, r"^(__init__|[a-z][a-z0-9_]*)\.py$")

    def test_size_and_signs(self):
        for path in files():
            text = path.read_bytes().decode("ascii")
            self.assertRegex(text, r"^[ -~\n]*$", path.name)
            self.assertIsNone(WORDS.search(text), path.name)
            lines = text.splitlines()
            self.assertLessEqual(len(lines), 400, path.name)
            self.assertLessEqual(max([len(line) for line in lines], default=0), 120, path.name)

    def test_statements_and_names(self):
        for path in files():
            for node in ast.walk(ast.parse(path.read_text())):
                place = f"{path.name}:{getattr(node, 'lineno', 0)}"
                self.assertNotIsInstance(node, OUT_OF_BOUNDS, place)
                self.check_names(node, place)
                self.check_size(node, place)

    def check_names(self, node, place):
        if isinstance(node, ast.Name):
            self.assertFalse(node.id.startswith("_"), place)
            self.assertTrue(node.id in BUILT_IN or not hasattr(builtins, node.id), place)
            if node.id in BUILT_IN:
                self.assertIsInstance(node.ctx, ast.Load, place)
        if isinstance(node, (ast.arg, ast.FunctionDef)):
            name = node.arg if isinstance(node, ast.arg) else node.name
            self.assertTrue(name in SPECIAL_METHODS or not hasattr(builtins, name), place)
        if isinstance(node, ast.Constant):
            self.assertNotIsInstance(node.value, (float, bytes, complex), place)
        if isinstance(node, ast.ImportFrom):
            self.assertRegex(node.module, r"^hearhall\.[a-z0-9_]+$", place)
            self.assertEqual(node.level, 0, place)
        if isinstance(node, ast.Call) and isinstance(node.func, ast.Attribute):
            self.assertTrue(node.func.attr in METHODS or self.is_own(node.func.attr), place)

    def check_size(self, node, place):
        if isinstance(node, ast.FunctionDef):
            self.assertLessEqual(node.end_lineno - node.lineno + 1, 40, place)
            self.assertEqual(node.decorator_list, [], place)
            self.assertIsNone(node.args.vararg or node.args.kwarg, place)
            self.assertEqual(node.args.kwonlyargs, [], place)
        if isinstance(node, (ast.For, ast.While)):
            self.assertEqual(node.orelse, [], place)
        if isinstance(node, ast.Assign):
            self.assertEqual(len(node.targets), 1, place)

    def is_own(self, method):
        """Whether a class of the package has such a method."""
        for path in files():
            for node in ast.walk(ast.parse(path.read_text())):
                if isinstance(node, ast.ClassDef):
                    if method in [part.name for part in node.body if isinstance(part, ast.FunctionDef)]:
                        return True
        return False


if __name__ == "__main__":
    unittest.main()
