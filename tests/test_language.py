"""The form of the package's files, as far as it is told line by line: rules of the language's part."""

import ast
import builtins
import pathlib
import re
import unittest

PACKAGE = pathlib.Path(__file__).resolve().parent.parent / "equationfollow"
FILES = sorted(path for path in PACKAGE.rglob("*") if "__pycache__" not in path.parts)

OWN_NAMES = """len range enumerate zip min max sum abs sorted reversed int str bool list tuple dict set frozenset isinstance
ord repr any all divmod Exception ValueError TypeError KeyError IndexError LookupError ZeroDivisionError ArithmeticError
OverflowError RuntimeError NotImplementedError AttributeError StopIteration""".split()
METHODS = """append clear copy count endswith extend find get index insert isalnum isalpha isdigit islower isspace isupper
items join keys ljust lower lstrip partition pop remove replace reverse rfind rjust rpartition rsplit rstrip setdefault
split splitlines startswith strip update upper values zfill bit_length""".split()
WORDS = r"""\b(type|typing|typing_extensions|enum|Enum|IntEnum|StrEnum|Flag|IntFlag|Generic|Protocol|ABC|ABCMeta|namedtuple
|NamedTuple|TypedDict|TYPE_CHECKING|abstractmethod)\b|dataclass|overload|contextmanager""".replace("\n", "")
STATEMENTS = (ast.FunctionDef, ast.ImportFrom, ast.Assign, ast.AugAssign, ast.If, ast.While, ast.For, ast.Return, ast.Break,
              ast.Continue, ast.Pass, ast.Expr)
BARRED = (ast.GeneratorExp, ast.SetComp, ast.DictComp, ast.Starred, ast.NamedExpr, ast.Set, ast.Div, ast.Yield, ast.Await,
          ast.MatMult)


class Form(unittest.TestCase):
    def each(self, check):
        for path in FILES:
            with self.subTest(file=path.name):
                source = path.read_text(encoding="ascii")
                check(source, ast.parse(source))

    def test_files(self):
        self.assertIn("equations.py", [path.name for path in FILES])
        for path in FILES:
            self.assertRegex(path.name, r"^(__init__|[a-z][a-z0-9_]*)\.py$")

    def test_size_and_signs(self):
        def check(source, tree):
            self.assertRegex(source, r"^[ -~\n]*$")
            self.assertLessEqual(len(source.splitlines()), 400)
            self.assertLessEqual(max(map(len, source.splitlines())), 120)
            for node in ast.walk(tree):
                if isinstance(node, ast.FunctionDef):
                    self.assertLessEqual(node.end_lineno - node.lineno + 1, 40, node.name)
        self.each(check)

    def test_words(self):
        def check(source, tree):
            self.assertIsNone(re.search(WORDS, source))
        self.each(check)

    def test_statements(self):
        def check(source, tree):
            for node in ast.walk(tree):
                if isinstance(node, ast.stmt):
                    self.assertIsInstance(node, STATEMENTS, ast.dump(node))
                if isinstance(node, ast.Assign):
                    self.assertEqual(len(node.targets), 1)
                if isinstance(node, (ast.For, ast.While)):
                    self.assertEqual(node.orelse, [])
                self.assertNotIsInstance(node, BARRED)
                if isinstance(node, ast.Constant):
                    self.assertIn(type(node.value), (int, str, bool, type(None)))
        self.each(check)

    def test_imports(self):
        def check(source, tree):
            for node in ast.walk(tree):
                if isinstance(node, ast.ImportFrom):
                    self.assertEqual(node.level, 0)
                    self.assertTrue(node.module.startswith("equationfollow."), node.module)
                    self.assertIn(node, tree.body)
        self.each(check)

    def test_names(self):
        def check(source, tree):
            for node in ast.walk(tree):
                if isinstance(node, ast.Name):
                    self.check_name(node)
                if isinstance(node, ast.arg):
                    self.assertFalse(hasattr(builtins, node.arg), node.arg)
                if isinstance(node, ast.Attribute):
                    self.assertIn(node.attr, METHODS)
        self.each(check)

    def test_locals_hide_nothing(self):
        def check(source, tree):
            top = [node.name for node in tree.body if isinstance(node, ast.FunctionDef)]
            for node in tree.body:
                if isinstance(node, ast.ImportFrom):
                    top += [alias.name for alias in node.names]
            for node in ast.walk(tree):
                if isinstance(node, ast.Name) and isinstance(node.ctx, ast.Store):
                    self.assertNotIn(node.id, top)
                if isinstance(node, ast.arg):
                    self.assertNotIn(node.arg, top)
        self.each(check)

    def check_name(self, node):
        self.assertFalse(node.id.startswith("_"), node.id)
        if hasattr(builtins, node.id):
            self.assertIn(node.id, OWN_NAMES)
            self.assertIsInstance(node.ctx, ast.Load, node.id)


if __name__ == "__main__":
    unittest.main()
