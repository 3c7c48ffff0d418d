"""The rules of the small part of Python that a look at the files can tell."""

import ast
import builtins
import pathlib
import re
import unittest

PACKAGE = pathlib.Path(__file__).resolve().parent.parent / "warpwinding"

STATEMENTS = (ast.Assign, ast.AugAssign, ast.If, ast.While, ast.For, ast.Return, ast.Break, ast.Continue, ast.Pass,
              ast.Raise, ast.Try, ast.Expr, ast.FunctionDef, ast.ClassDef, ast.ImportFrom)
NOT_WRITTEN = (ast.SetComp, ast.DictComp, ast.GeneratorExp, ast.NamedExpr, ast.Starred, ast.Set, ast.Div,
               ast.Await, ast.Yield, ast.YieldFrom, ast.MatMult)
BUILT_IN = set("""len range enumerate zip min max sum abs sorted reversed int str bool list tuple dict set frozenset
    isinstance ord repr any all divmod Exception ValueError TypeError KeyError IndexError LookupError
    ZeroDivisionError ArithmeticError OverflowError RuntimeError NotImplementedError AttributeError
    StopIteration""".split())
METHODS = set("""append clear copy count endswith extend find get index insert isalnum isalpha isdigit islower isspace
    isupper items join keys ljust lower lstrip partition pop remove replace reverse rfind rjust rpartition rsplit
    rstrip setdefault split splitlines startswith strip update upper values zfill bit_length""".split())
NAMES_OF_PYTHON = {name for name in dir(builtins) if not name.startswith("_")}
PYTHONS_OWN = {name for kind in (str, int, list, dict, set, tuple, bytes) for name in dir(kind)}
SPECIAL = {"__init__", "__eq__", "__repr__", "__str__", "__len__"}
WORDS = """type typing typing_extensions enum Enum IntEnum StrEnum Flag IntFlag Generic Protocol ABC ABCMeta namedtuple
    NamedTuple TypedDict TYPE_CHECKING abstractmethod""".split()
WORD = re.compile(r"\b(" + "|".join(WORDS) + r")\b|dataclass|overload|contextmanager")


def files():
    return sorted(path for path in PACKAGE.rglob("*") if "__pycache__" not in path.parts and path.is_file())


def bound(tree):
    """Every name that a file gives to something, with its row."""
    for node in ast.walk(tree):
        if isinstance(node, ast.Name) and isinstance(node.ctx, ast.Store):
            yield node.id, node.lineno
        elif isinstance(node, ast.arg):
            yield node.arg, node.lineno
        elif isinstance(node, (ast.FunctionDef, ast.ClassDef)):
            yield node.name, node.lineno
        elif isinstance(node, ast.Attribute) and isinstance(node.ctx, ast.Store):
            yield node.attr, node.lineno


def top_names(tree):
    for node in tree.body:
        if isinstance(node, (ast.FunctionDef, ast.ClassDef)):
            yield node.name
        elif isinstance(node, ast.Assign):
            yield from [target.id for target in node.targets]
        elif isinstance(node, ast.ImportFrom):
            yield from [alias.asname or alias.name for alias in node.names]


def parsed():
    texts = [(path, path.read_text(encoding="utf-8")) for path in files()]
    return [(path, text, ast.parse(text)) for path, text in texts]


class Language(unittest.TestCase):
    def test_files(self):
        self.assertTrue((PACKAGE / "__init__.py").is_file())
        for path in files():
            self.assertRegex(path.name, r"^([a-z][a-z0-9_]*|__init__)\.py$")
            self.assertEqual(path.parent, PACKAGE)
            self.assertNotIn(path.stem, NAMES_OF_PYTHON)

    def test_signs_words_and_size(self):
        for path, text, tree in parsed():
            self.assertIsNone(re.search(r"[^ -~\n]", text))
            self.assertIsNone(WORD.search(text))
            rows = text.splitlines()
            self.assertLessEqual(len(rows), 400)
            self.assertLessEqual(max(len(row) for row in rows), 120)
            for node in ast.walk(tree):
                if isinstance(node, ast.FunctionDef):
                    self.assertLessEqual(node.end_lineno - node.lineno + 1, 40, node.name)

    def test_imports(self):
        for path, text, tree in parsed():
            for node in ast.walk(tree):
                if isinstance(node, ast.ImportFrom):
                    self.assertEqual(node.level, 0)
                    self.assertRegex(node.module, r"^warpwinding\.[a-z]+$")
                    self.assertIn(node, tree.body)
                    defined = list(top_names(ast.parse((PACKAGE / (node.module[12:] + ".py")).read_text())))
                    for alias in node.names:
                        self.assertIn(alias.name, defined)

    def test_statements_and_expressions(self):
        for path, text, tree in parsed():
            for node in ast.walk(tree):
                if isinstance(node, ast.stmt):
                    self.assertIsInstance(node, STATEMENTS)
                self.assertNotIsInstance(node, NOT_WRITTEN)
                if isinstance(node, ast.Assign):
                    self.assertEqual(len(node.targets), 1)
                if isinstance(node, (ast.For, ast.While)):
                    self.assertEqual(node.orelse, [])
                if isinstance(node, ast.Expr):
                    plain = isinstance(node.value, ast.Call) or isinstance(node.value, ast.Constant)
                    self.assertTrue(plain, node.lineno)
                if isinstance(node, ast.ListComp):
                    self.assertEqual(len(node.generators), 1)
                    self.assertLessEqual(len(node.generators[0].ifs), 1)
                if isinstance(node, ast.Constant):
                    self.assertIn(node.value.__class__, (int, str, bool, type(None)))

    def test_functions_and_classes(self):
        for path, text, tree in parsed():
            for node in ast.walk(tree):
                if isinstance(node, (ast.FunctionDef, ast.ClassDef)):
                    self.assertEqual(node.decorator_list, [])
                if isinstance(node, ast.FunctionDef):
                    given = node.args
                    self.assertFalse(given.vararg or given.kwarg or given.kwonlyargs or given.posonlyargs)
                if isinstance(node, ast.ClassDef):
                    self.assertLessEqual(len(node.bases), 1)
                    self.assertIn(node, tree.body)

    def test_names(self):
        for path, text, tree in parsed():
            names = list(top_names(tree))
            self.assertEqual(len(names), len(set(names)))
            for name, row in bound(tree):
                self.assertTrue(name in SPECIAL or re.fullmatch(r"[A-Za-z][A-Za-z0-9_]*", name), (name, row))
                self.assertNotIn(name, NAMES_OF_PYTHON, (path.name, row))
            for node in ast.walk(tree):
                if isinstance(node, ast.Name) and node.id in NAMES_OF_PYTHON:
                    self.assertIn(node.id, BUILT_IN)
                if isinstance(node, ast.Attribute) and node.attr in PYTHONS_OWN:
                    self.assertIn(node.attr, METHODS)


if __name__ == "__main__":
    unittest.main()
