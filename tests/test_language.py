"""The package's files keep to their small part of Python, as far as a walk through them can see it."""

import ast
import builtins
import pathlib
import re
import unittest

PACKAGE = pathlib.Path(__file__).resolve().parent.parent / "duetimers"

STATEMENTS = (ast.Assign, ast.AugAssign, ast.If, ast.While, ast.For, ast.Return, ast.Break, ast.Continue, ast.Pass,
              ast.Raise, ast.Try, ast.ExceptHandler, ast.Expr, ast.FunctionDef, ast.ClassDef, ast.ImportFrom, ast.Module)
EXPRESSIONS = (ast.Constant, ast.List, ast.Tuple, ast.Dict, ast.BinOp, ast.UnaryOp, ast.BoolOp, ast.Compare, ast.IfExp,
               ast.Call, ast.Attribute, ast.Subscript, ast.Slice, ast.ListComp, ast.comprehension, ast.Name, ast.Lambda,
               ast.JoinedStr, ast.FormattedValue, ast.keyword, ast.arguments, ast.arg, ast.alias)
SIGNS = (ast.expr_context, ast.boolop, ast.operator, ast.unaryop, ast.cmpop)

PYTHONS_OWN_NAMES = set(
    "len range enumerate zip min max sum abs sorted reversed int str bool list tuple dict set frozenset isinstance ord "
    "repr any all divmod Exception ValueError TypeError KeyError IndexError LookupError ZeroDivisionError "
    "ArithmeticError OverflowError RuntimeError NotImplementedError StopIteration".split())
PYTHONS_OWN_METHODS = set(
    "append clear copy count endswith extend find get index insert isalnum isalpha isdigit islower isspace isupper "
    "items join keys ljust lower lstrip partition pop remove replace reverse rfind rjust rpartition rsplit rstrip "
    "setdefault split splitlines startswith strip update upper values zfill bit_length".split())
UNUSED_WORDS = set(
    "type typing typing_extensions enum Enum IntEnum StrEnum Flag IntFlag Generic Protocol ABC ABCMeta namedtuple "
    "NamedTuple TypedDict TYPE_CHECKING abstractmethod register mro elements open input version_info".split())
SPECIAL_METHODS = ("__init__", "__eq__", "__repr__", "__str__", "__len__")


def walk_all(kind):
    for path in sorted(PACKAGE.glob("*.py")):
        for node in ast.walk(ast.parse(path.read_text("utf-8"))):
            if isinstance(node, kind):
                yield path.name, node


class Language(unittest.TestCase):
    def test_files(self):
        for path in PACKAGE.iterdir():
            if path.name != "__pycache__":
                self.assertRegex(path.name, r"\A[a-z0-9_]+\.py\Z")

    def test_sizes_and_signs(self):
        for path in PACKAGE.glob("*.py"):
            text = path.read_bytes().decode("ascii")
            self.assertRegex(text, r"\A[ -~\n]*\Z")
            lines = text.split("\n")
            self.assertLessEqual(len(lines), 400, path.name)
            self.assertLessEqual(max(len(line) for line in lines), 120, path.name)
            self.assertEqual(UNUSED_WORDS & set(re.findall(r"\w+", text)), set(), path.name)
        for name, node in walk_all(ast.FunctionDef):
            self.assertLessEqual(node.end_lineno - node.lineno + 1, 40, f"{name}: {node.name}")

    def test_statements_and_expressions(self):
        for name, node in walk_all(ast.AST):
            self.assertIsInstance(node, STATEMENTS + EXPRESSIONS + SIGNS, f"{name}: {ast.dump(node)}")
        for name, node in walk_all((ast.For, ast.While)):
            self.assertEqual(node.orelse, [], name)
        for name, node in walk_all(ast.Assign):
            self.assertEqual(len(node.targets), 1, name)
        for name, node in walk_all((ast.FunctionDef, ast.ClassDef)):
            self.assertEqual(node.decorator_list, [], name)
        for name, node in walk_all(ast.BinOp):
            self.assertNotIsInstance(node.op, (ast.Div, ast.MatMult), name)
        for name, node in walk_all(ast.Constant):
            self.assertIn(type(node.value), (int, str, bool, type(None)), name)

    def test_imports(self):
        for name, node in walk_all(ast.ImportFrom):
            self.assertEqual(node.level, 0, name)
            self.assertRegex(node.module, r"\Aduetimers\.[a-z_]+\Z", name)
            self.assertNotIn("*", [alias.name for alias in node.names], name)

    def test_names(self):
        for name, node in walk_all(ast.Name):
            self.check_word(name, node.id)
            if node.id in dir(builtins):
                self.assertIn(node.id, PYTHONS_OWN_NAMES, name)
                self.assertIsInstance(node.ctx, ast.Load, name)
        for name, node in walk_all(ast.arg):
            self.check_word(name, node.arg)
            self.assertNotIn(node.arg, dir(builtins), name)
        for name, node in walk_all((ast.FunctionDef, ast.ClassDef)):
            if node.name not in SPECIAL_METHODS:
                self.check_word(name, node.name)
                self.assertNotIn(node.name, dir(builtins), name)

    def check_word(self, file, word):
        self.assertRegex(word, r"\A[A-Za-z][A-Za-z0-9_]*\Z", file)

    def test_methods(self):
        own = {node.name for file, node in walk_all(ast.FunctionDef)}
        for name, node in walk_all(ast.Call):
            if isinstance(node.func, ast.Attribute):
                self.assertIn(node.func.attr, PYTHONS_OWN_METHODS | own, name)


if __name__ == "__main__":
    unittest.main()
