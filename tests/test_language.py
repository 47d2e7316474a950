"""The rules of the language that can be seen in the package's files with little work."""

import ast
import pathlib
import re
import unittest

PACKAGE = pathlib.Path(__file__).resolve().parent.parent / "enoughasked"
FILES = sorted(PACKAGE.rglob("*.py"))

LIBRARY_NAMES = """
    len range enumerate zip min max sum abs sorted reversed int str bool list tuple dict set frozenset isinstance
    ord repr any all divmod Exception ValueError TypeError KeyError IndexError LookupError ZeroDivisionError
    ArithmeticError OverflowError RuntimeError NotImplementedError AttributeError StopIteration
""".split()
WORDS = re.compile(r"""\b(?:type|typing|typing_extensions|enum|Enum|IntEnum|StrEnum|Flag|IntFlag|Generic|Protocol|
    ABC|ABCMeta|namedtuple|NamedTuple|TypedDict|TYPE_CHECKING|abstractmethod)\b|dataclass|overload|contextmanager
    """, re.VERBOSE)
STATEMENTS = (
    ast.FunctionDef, ast.ClassDef, ast.Assign, ast.AugAssign, ast.If, ast.While, ast.For, ast.Return, ast.Break,
    ast.Continue, ast.Pass, ast.Raise, ast.Try, ast.Expr, ast.ImportFrom,
)
NOT_EXPRESSIONS = (
    ast.Set, ast.SetComp, ast.DictComp, ast.GeneratorExp, ast.NamedExpr, ast.Starred, ast.Await, ast.Yield,
    ast.YieldFrom, ast.Div, ast.MatMult,
)


class TheLanguage(unittest.TestCase):
    def nodes(self):
        for file in FILES:
            for node in ast.walk(ast.parse(file.read_text(encoding="utf-8"))):
                yield f"{file.name}:{getattr(node, 'lineno', 0)}", node

    def test_nothing_else_lies_in_the_package(self):
        found = [path for path in PACKAGE.rglob("*") if "__pycache__" not in path.parts]
        self.assertEqual(sorted(found), FILES)
        self.assertIn("__init__.py", [path.name for path in FILES])

    def test_size_and_signs(self):
        for file in FILES:
            text = file.read_text(encoding="utf-8")
            lines = text.split("\n")
            self.assertLessEqual(len(lines), 399, file.name)
            for number, line in enumerate(lines, 1):
                self.assertLessEqual(len(line), 120, f"{file.name}:{number}")
            self.assertEqual([sign for sign in text if sign != "\n" and not " " <= sign <= "~"], [], file.name)
            self.assertIsNone(WORDS.search(text), file.name)

    def test_statements_and_expressions(self):
        for where, node in self.nodes():
            if isinstance(node, ast.stmt):
                self.assertIsInstance(node, STATEMENTS, where)
            self.assertNotIsInstance(node, NOT_EXPRESSIONS, where)
            self.assertFalse(getattr(node, "decorator_list", None), where)
            if isinstance(node, ast.Constant):
                self.assertNotIsInstance(node.value, (float, complex, bytes), where)
            if isinstance(node, ast.Assign):
                self.assertEqual(len(node.targets), 1, where)
            if isinstance(node, (ast.For, ast.While)):
                self.assertEqual(node.orelse, [], where)
            if isinstance(node, ast.FunctionDef):
                self.assertLessEqual(node.end_lineno - node.lineno + 1, 40, where)

    def test_imports_are_of_the_package_alone(self):
        for where, node in self.nodes():
            if isinstance(node, ast.ImportFrom):
                self.assertEqual(node.level, 0, where)
                self.assertTrue(node.module.startswith("enoughasked."), where)
                self.assertNotIn("*", [each.name for each in node.names], where)

    def test_names(self):
        library = dir(__builtins__) if not isinstance(__builtins__, dict) else list(__builtins__)
        for where, node in self.nodes():
            bound = [getattr(node, "name", None), getattr(node, "arg", None), getattr(node, "attr", None)]
            if isinstance(node, ast.Name):
                bound.append(node.id)
                if isinstance(node.ctx, ast.Store):
                    self.assertNotIn(node.id, library, where)
                elif node.id in library:
                    self.assertIn(node.id, LIBRARY_NAMES, where)
            if isinstance(node, ast.arg):
                self.assertNotIn(node.arg, library, where)
            for name in bound:
                if name is not None and name != "__init__":
                    self.assertRegex(name, r"\A[A-Za-z][A-Za-z0-9_]*\Z", where)
