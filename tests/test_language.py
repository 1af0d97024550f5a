"""The rules of the language that can be seen in the package's files one by one."""

import ast
import builtins
import re
import unittest
from pathlib import Path

PACKAGE = Path(__file__).resolve().parent.parent / "cellflow"

STATEMENTS = (ast.Assign, ast.AugAssign, ast.If, ast.While, ast.For, ast.Return, ast.Break, ast.Continue, ast.Pass,
              ast.Raise, ast.Try, ast.Expr, ast.FunctionDef, ast.ClassDef, ast.ImportFrom)
FORBIDDEN_NODES = (ast.Div, ast.Starred, ast.Set, ast.SetComp, ast.DictComp, ast.GeneratorExp, ast.NamedExpr,
                   ast.Yield, ast.YieldFrom, ast.Await, ast.MatMult)
BUILT_INS = """len range enumerate zip min max sum abs sorted reversed int str bool list tuple dict set frozenset
    isinstance ord repr any all divmod Exception ValueError TypeError KeyError IndexError LookupError
    ZeroDivisionError ArithmeticError OverflowError RuntimeError NotImplementedError AttributeError
    StopIteration""".split()
METHODS = """append clear copy count endswith extend find get index insert isalnum isalpha isdigit islower isspace
    isupper items join keys ljust lower lstrip partition pop remove replace reverse rfind rjust rpartition rsplit
    rstrip setdefault split splitlines startswith strip update upper values zfill bit_length""".split()
FORBIDDEN_WORDS = re.compile(
    r"\b(type|typing|typing_extensions|enum|Enum|IntEnum|StrEnum|Flag|IntFlag|Generic|Protocol|ABC|ABCMeta|namedtuple"
    r"|NamedTuple|TypedDict|TYPE_CHECKING|abstractmethod)\b|dataclass|overload|contextmanager")


def sources():
    return sorted(PACKAGE.glob("*.py"))


def trees():
    return [(path.name, ast.parse(path.read_text(encoding="utf-8"))) for path in sources()]


def nodes():
    return [(f"{name}:{getattr(node, 'lineno', '?')}", node) for name, tree in trees() for node in ast.walk(tree)]


def bound_names(node):
    """The names that a node binds or gives to something."""
    if isinstance(node, (ast.FunctionDef, ast.ClassDef)):
        return [node.name]
    if isinstance(node, ast.arg):
        return [node.arg]
    if isinstance(node, ast.Name) and isinstance(node.ctx, ast.Store):
        return [node.id]
    if isinstance(node, ast.Attribute) and isinstance(node.ctx, ast.Store):
        return [node.attr]
    return []


class Language(unittest.TestCase):
    def test_files(self):
        others = [path.name for path in PACKAGE.iterdir() if path.suffix != ".py" and path.name != "__pycache__"]
        self.assertEqual(others, [])
        self.assertTrue((PACKAGE / "__init__.py").is_file())
        for path in sources():
            self.assertRegex(path.name, r"\A(__init__|[a-z][a-z0-9_]*)\.py\Z")

    def test_signs_and_sizes(self):
        for path in sources():
            rows = path.read_bytes().decode("utf-8").split("\n")
            self.assertLessEqual(len(rows), 401, path.name)
            for row in rows:
                self.assertRegex(row, r"\A[ -~]{0,120}\Z", path.name)
                self.assertNotRegex(row, FORBIDDEN_WORDS, path.name)

    def test_functions(self):
        for where, node in nodes():
            if isinstance(node, ast.FunctionDef):
                self.assertLessEqual(node.end_lineno - node.lineno + 1, 40, where)
                self.assertEqual(node.decorator_list, [], where)
                self.assertTrue(node.args.vararg is None and node.args.kwarg is None, where)
                self.assertEqual(node.args.kwonlyargs, [], where)

    def test_statements_and_expressions(self):
        for where, node in nodes():
            self.assertFalse(isinstance(node, FORBIDDEN_NODES), where)
            if isinstance(node, ast.stmt):
                self.assertIsInstance(node, STATEMENTS, where)
            if isinstance(node, ast.Constant):
                self.assertIsInstance(node.value, (int, str, type(None)), where)
            if isinstance(node, ast.Assign):
                self.assertEqual(len(node.targets), 1, where)
            if isinstance(node, (ast.For, ast.While)):
                self.assertEqual(node.orelse, [], where)
            if isinstance(node, (ast.Is, ast.IsNot, ast.Pow)):
                self.fail(f"{where}: look at L20 and L27, then widen this test")

    def test_imports_are_the_packages_own_and_at_the_top(self):
        for name, tree in trees():
            top = [node for node in tree.body if isinstance(node, ast.ImportFrom)]
            everywhere = [node for node in ast.walk(tree) if isinstance(node, (ast.ImportFrom, ast.Import))]
            self.assertEqual(everywhere, top, name)
            for node in top:
                self.assertRegex(node.module, r"\Acellflow\.[a-z][a-z0-9_]*\Z", name)
                self.assertEqual(node.level, 0, name)

    def test_names(self):
        for where, node in nodes():
            for name in bound_names(node):
                if name != "__init__":
                    self.assertRegex(name, r"\A[A-Za-z][A-Za-z0-9_]*\Z", where)
                    self.assertFalse(hasattr(builtins, name), where)
            if isinstance(node, ast.Name) and hasattr(builtins, node.id):
                self.assertIn(node.id, BUILT_INS, where)

    def test_methods_of_pythons_own_values(self):
        for where, node in nodes():
            if isinstance(node, ast.Attribute):
                if any(hasattr(kind, node.attr) for kind in (str, int, list, dict, set, bytes, tuple)):
                    self.assertIn(node.attr, METHODS, where)


if __name__ == "__main__":
    unittest.main()
