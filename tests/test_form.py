"""The package's files keep to the part of Python that the program is written in, as far as their form shows it."""

import ast
import builtins
import pathlib
import re
import unittest

PACKAGE = pathlib.Path(__file__).resolve().parent.parent / "hearhall"

BUILT_IN = set("""len range enumerate zip min max sum abs sorted reversed int str bool list tuple dict set frozenset
isinstance ord repr any all divmod Exception ValueError TypeError KeyError IndexError LookupError ZeroDivisionError
ArithmeticError OverflowError RuntimeError NotImplementedError AttributeError StopIteration""".split())

METHODS = set("""append clear copy count endswith extend find get index insert isalnum isalpha isdigit islower isspace
isupper items join keys ljust lower lstrip partition pop remove replace reverse rfind rjust rpartition rsplit rstrip
setdefault split splitlines startswith strip update upper values zfill bit_length""".split())

OUT_OF_BOUNDS = (
    ast.With, ast.Match, ast.Delete, ast.Global, ast.Nonlocal, ast.Assert, ast.Yield, ast.YieldFrom, ast.Await,
    ast.AsyncFunctionDef, ast.AsyncFor, ast.AsyncWith, ast.NamedExpr, ast.Starred, ast.SetComp, ast.DictComp,
    ast.GeneratorExp, ast.Div, ast.MatMult, ast.Import, ast.TryStar)

SPECIAL_METHODS = ("__init__", "__eq__", "__repr__", "__str__", "__len__")

WORDS = re.compile(r"\b(type|typing|typing_extensions|enum|Enum|IntEnum|StrEnum|Flag|IntFlag|Generic|Protocol|ABC|"
                   r"ABCMeta|namedtuple|NamedTuple|TypedDict|TYPE_CHECKING|abstractmethod)\b|"
                   r"dataclass|overload|contextmanager")


def files():
    return sorted(path for path in PACKAGE.rglob("*") if "__pycache__" not in path.parts and path.is_file())


class Form(unittest.TestCase):
    def test_files(self):
        self.assertIn(PACKAGE / "__init__.py", files())
        for path in files():
            self.assertRegex(path.name, r"^(__init__|[a-z][a-z0-9_]*)\.py$")

    def test_size_and_signs(self):
        for path in files():
            text = path.read_bytes().decode("ascii")
            self.assertRegex(text, r"^[ -~\n]*$", path.name)
            self.assertIsNone(WORDS.search(text), path.name)
            lines = text.splitlines()
            self.assertLessEqual(len(lines), 400, path.name)
            self.assertLessEqual(max([len(line) for line in lines], default=0), 120, path.name)

    def test_statements_and_names(self):
        for path in files():
            for node in ast.walk(ast.parse(path.read_text())):
                place = f"{path.name}:{getattr(node, 'lineno', 0)}"
                self.assertNotIsInstance(node, OUT_OF_BOUNDS, place)
                self.check_names(node, place)
                self.check_size(node, place)

    def check_names(self, node, place):
        if isinstance(node, ast.Name):
            self.assertFalse(node.id.startswith("_"), place)
            self.assertTrue(node.id in BUILT_IN or not hasattr(builtins, node.id), place)
            if node.id in BUILT_IN:
                self.assertIsInstance(node.ctx, ast.Load, place)
        if isinstance(node, (ast.arg, ast.FunctionDef)):
            name = node.arg if isinstance(node, ast.arg) else node.name
            self.assertTrue(name in SPECIAL_METHODS or not hasattr(builtins, name), place)
        if isinstance(node, ast.Constant):
            self.assertNotIsInstance(node.value, (float, bytes, complex), place)
        if isinstance(node, ast.ImportFrom):
            self.assertRegex(node.module, r"^hearhall\.[a-z0-9_]+$", place)
            self.assertEqual(node.level, 0, place)
        if isinstance(node, ast.Call) and isinstance(node.func, ast.Attribute):
            self.assertTrue(node.func.attr in METHODS or self.is_own(node.func.attr), place)

    def check_size(self, node, place):
        if isinstance(node, ast.FunctionDef):
            self.assertLessEqual(node.end_lineno - node.lineno + 1, 40, place)
            self.assertEqual(node.decorator_list, [], place)
            self.assertIsNone(node.args.vararg or node.args.kwarg, place)
            self.assertEqual(node.args.kwonlyargs, [], place)
        if isinstance(node, (ast.For, ast.While)):
            self.assertEqual(node.orelse, [], place)
        if isinstance(node, ast.Assign):
            self.assertEqual(len(node.targets), 1, place)

    def test_the_top_of_a_file(self):
        for path in files():
            bound = []
            for part in ast.parse(path.read_text()).body:
                place = f"{path.name}:{part.lineno}"
                self.assertIsInstance(part, (ast.Expr, ast.ImportFrom, ast.Assign, ast.FunctionDef, ast.ClassDef), place)
                if isinstance(part, ast.Expr):
                    self.assertIsInstance(part.value, ast.Constant, place)
                if isinstance(part, ast.Assign):
                    ast.literal_eval(part.value)
                bound += self.bound_by(part)
            self.assertEqual(len(bound), len(set(bound)), path.name)

    def bound_by(self, part):
        if isinstance(part, ast.ImportFrom):
            self.assertTrue(all(name.asname is None for name in part.names))
            return [name.name for name in part.names]
        if isinstance(part, ast.Assign):
            return [part.targets[0].id]
        return [part.name] if isinstance(part, (ast.FunctionDef, ast.ClassDef)) else []

    def test_no_local_is_called_like_an_import_or_a_class(self):
        for path in files():
            tree = ast.parse(path.read_text())
            taken = [name for part in tree.body if isinstance(part, (ast.ImportFrom, ast.ClassDef))
                     for name in self.bound_by(part)]
            for node in ast.walk(tree):
                if isinstance(node, ast.Name) and isinstance(node.ctx, ast.Store):
                    self.assertNotIn(node.id, taken, f"{path.name}:{node.lineno}")
                if isinstance(node, ast.arg):
                    self.assertNotIn(node.arg, taken, f"{path.name}:{node.lineno}")

    def test_imports_are_from_the_file_that_defines_the_name(self):
        drawn = {}
        for path in files():
            drawn[path.stem] = []
            for node in ast.walk(ast.parse(path.read_text())):
                if isinstance(node, ast.ImportFrom):
                    source = node.module.split(".")[1]
                    defined = []
                    for part in ast.parse((PACKAGE / f"{source}.py").read_text()).body:
                        defined += [] if isinstance(part, ast.ImportFrom) else self.bound_by(part)
                    for name in node.names:
                        self.assertIn(name.name, defined, path.name)
                    drawn[path.stem].append(source)
        self.check_no_ring(drawn)

    def check_no_ring(self, drawn):
        """Takes away files that draw from none that is left, until none is left."""
        while drawn:
            free = [name for name in drawn if not any(source in drawn for source in drawn[name])]
            self.assertNotEqual(free, [], f"these draw from one another: {sorted(drawn)}")
            for name in free:
                del drawn[name]

    def test_methods_and_values_have_names_of_their_own(self):
        methods, values = set(), set()
        for path in files():
            for node in ast.walk(ast.parse(path.read_text())):
                if isinstance(node, ast.ClassDef):
                    for part in node.body:
                        self.assertIsInstance(part, ast.FunctionDef, path.name)
                        methods.add(part.name)
                if isinstance(node, ast.Attribute) and isinstance(node.ctx, ast.Store):
                    values.add(node.attr)
        self.assertEqual(methods & values, set())
        for kind in (str, int, list, dict, set, bytes):
            self.assertEqual((methods | values) & set(dir(kind)) - set(SPECIAL_METHODS), set(), kind)

    def test_what_is_walked_is_not_kept(self):
        for path in files():
            tree = ast.parse(path.read_text())
            walked = []
            for node in ast.walk(tree):
                if isinstance(node, (ast.For, ast.comprehension)):
                    walked.append(node.iter)
                if isinstance(node, ast.Call) and isinstance(node.func, ast.Name) and node.args:
                    if node.func.id in ("list", "tuple", "dict", "sorted", "sum", "any", "all", "enumerate", "zip"):
                        walked.append(node.args[0])
            for node in ast.walk(tree):
                if isinstance(node, ast.Call) and isinstance(node.func, ast.Name):
                    if node.func.id in ("zip", "enumerate", "reversed", "range"):
                        self.assertIn(node, walked, f"{path.name}:{node.lineno}")

    def test_plain_expressions(self):
        for path in files():
            for node in ast.walk(ast.parse(path.read_text())):
                place = f"{path.name}:{getattr(node, 'lineno', 0)}"
                self.assertNotIsInstance(node, (ast.AnnAssign, ast.Set, ast.Pow), place)
                if isinstance(node, ast.ListComp):
                    self.assertEqual(len(node.generators), 1, place)
                    self.assertLessEqual(len(node.generators[0].ifs), 1, place)
                if isinstance(node, ast.Compare) and isinstance(node.ops[0], (ast.Is, ast.IsNot)):
                    self.assertIsInstance(node.comparators[0], ast.Constant, place)
                if isinstance(node, ast.Constant) and isinstance(node.value, str):
                    self.assertNotIn("%", node.value, place)
                if isinstance(node, ast.FunctionDef):
                    self.assertIsNone(node.returns, place)
                if isinstance(node, ast.arg):
                    self.assertIsNone(node.annotation, place)

    def is_own(self, method):
        """Whether a class of the package has such a method."""
        for path in files():
            for node in ast.walk(ast.parse(path.read_text())):
                if isinstance(node, ast.ClassDef):
                    if method in [part.name for part in node.body if isinstance(part, ast.FunctionDef)]:
                        return True
        return False


if __name__ == "__main__":
    unittest.main()
