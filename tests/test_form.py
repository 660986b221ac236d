"""The package's files keep to a small part of Python, the same on every version of it."""

import ast
import builtins
import pathlib
import re
import unittest

FOLDER = pathlib.Path(__file__).resolve().parent.parent / "saidfaults"
FILES = sorted(FOLDER.glob("*.py"))
BUILTINS = set(
    "len range enumerate zip min max sum abs sorted reversed int str bool list tuple dict set frozenset isinstance ord "
    "repr any all divmod Exception ValueError TypeError KeyError IndexError LookupError ZeroDivisionError "
    "ArithmeticError OverflowError RuntimeError NotImplementedError AttributeError StopIteration".split())
METHODS = set(
    "append clear copy count endswith extend find get index insert isalnum isalpha isdigit islower isspace isupper "
    "items join keys ljust lower lstrip partition pop remove replace reverse rfind rjust rpartition rsplit rstrip setdefault "
    "split splitlines startswith strip update upper values zfill bit_length".split())
NODES = (
    ast.With, ast.Match, ast.Delete, ast.Global, ast.Nonlocal, ast.Assert, ast.Yield, ast.YieldFrom, ast.AsyncFor,
    ast.AsyncFunctionDef, ast.AsyncWith, ast.Await, ast.SetComp, ast.DictComp, ast.GeneratorExp, ast.NamedExpr,
    ast.Starred, ast.AnnAssign, ast.Import)
WORDS = re.compile(
    r"\b(type|typing|typing_extensions|enum|Enum|IntEnum|StrEnum|Flag|IntFlag|Generic|Protocol|ABC|ABCMeta|namedtuple|"
    r"NamedTuple|TypedDict|TYPE_CHECKING|abstractmethod)\b|dataclass|overload|contextmanager")


def trees():
    return [(path, ast.parse(path.read_text())) for path in FILES]


def nodes(kind):
    return [(path, node) for path, tree in trees() for node in ast.walk(tree) if isinstance(node, kind)]


class Form(unittest.TestCase):
    def test_files(self):
        lying = [path.name for path in FOLDER.iterdir() if path.name != "__pycache__"]
        self.assertTrue(FILES)
        for name in lying:
            self.assertRegex(name, r"^(__init__|__main__|[a-z][a-z0-9_]*)\.py$")

    def test_signs_and_sizes(self):
        for path in FILES:
            text = path.read_text(encoding="utf-8")
            self.assertRegex(text, r"\A[ -~\n]*\Z", path)
            self.assertIsNone(WORDS.search(text), path)
            self.assertLessEqual(len(text.splitlines()), 400, path)
            self.assertLessEqual(max(len(line) for line in text.splitlines()), 120, path)

    def test_functions(self):
        for path, node in nodes((ast.FunctionDef, ast.ClassDef)):
            self.assertEqual(node.decorator_list, [], (path, node.name))
            if isinstance(node, ast.FunctionDef):
                self.assertLessEqual(node.end_lineno - node.lineno + 1, 40, (path, node.name))
                plain = node.args.vararg is None and node.args.kwarg is None and not node.args.kwonlyargs
                self.assertTrue(plain, (path, node.name))

    def test_statements_and_expressions(self):
        self.assertEqual([(path.name, node.lineno) for path, node in nodes(NODES)], [])
        self.assertEqual(nodes((ast.Div, ast.MatMult)), [])
        for path, node in nodes((ast.For, ast.While)):
            self.assertEqual(node.orelse, [], (path, node.lineno))
        for path, node in nodes(ast.Try):
            self.assertEqual(node.finalbody, [], (path, node.lineno))
        for path, node in nodes(ast.ListComp):
            self.assertEqual(len(node.generators), 1, (path, node.lineno))
            self.assertLessEqual(len(node.generators[0].ifs), 1, (path, node.lineno))
        for path, node in nodes(ast.Assign):
            self.assertEqual(len(node.targets), 1, (path, node.lineno))
        for path, node in nodes(ast.Constant):
            self.assertIn(type(node.value), (int, str, bool, type(None)), (path, node.lineno))
            self.assertFalse(isinstance(node.value, str) and "%" in node.value, (path, node.lineno))

    def test_imports(self):
        for path, node in nodes(ast.ImportFrom):
            self.assertEqual(node.level, 0, path)
            self.assertRegex(node.module, r"^saidfaults\.[a-z]+$")
            defined = ast.parse((FOLDER / (node.module.split(".")[1] + ".py")).read_text()).body
            names = [one.name for one in defined if isinstance(one, (ast.FunctionDef, ast.ClassDef))]
            names += [one.targets[0].id for one in defined if isinstance(one, ast.Assign)]
            for alias in node.names:
                self.assertIn(alias.name, names, path)

    def test_names(self):
        own = {node.name for path, node in nodes((ast.FunctionDef, ast.ClassDef))}
        for path, node in nodes(ast.Name):
            self.assertTrue(node.id in BUILTINS or node.id not in dir(builtins), (path, node.id, node.lineno))
            stored = isinstance(node.ctx, ast.Store)
            self.assertFalse(stored and (node.id in dir(builtins) or node.id in own), (path, node.id, node.lineno))
        for path, node in nodes(ast.arg):
            self.assertFalse(node.arg in dir(builtins) or node.arg in own, (path, node.arg))

    def test_methods(self):
        own = {one.name for path, node in nodes(ast.ClassDef) for one in node.body if isinstance(one, ast.FunctionDef)}
        for path, node in nodes(ast.Call):
            if isinstance(node.func, ast.Attribute):
                self.assertIn(node.func.attr, METHODS | own, (path, node.lineno))
        values = {node.attr for path, node in nodes(ast.Attribute) if isinstance(node.ctx, ast.Store)}
        self.assertEqual(values & own, set())
        for kind in (str, int, list, dict, set, bytes):
            self.assertEqual((values | own) & set(dir(kind)) - {"__init__"}, set(), kind)

    def test_is_stands_beside_none(self):
        for path, node in nodes(ast.Compare):
            for operator, right in zip(node.ops, node.comparators):
                if isinstance(operator, (ast.Is, ast.IsNot)):
                    self.assertIsInstance(right, ast.Constant, (path, node.lineno))


if __name__ == "__main__":
    unittest.main()
