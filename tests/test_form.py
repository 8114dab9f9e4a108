"""The package's own files keep to the part of Python that they may use, as far as a look at them can tell."""

import ast
import builtins
import pathlib
import re
import unittest

FILES = sorted((pathlib.Path(__file__).parent.parent / "smalltongue").glob("*.py"))

NODES = """Module Expr Constant ImportFrom alias FunctionDef arguments arg Return ClassDef Pass Assign AugAssign
    Name Load Store Attribute Subscript Slice Call If While For Break Continue Raise Try ExceptHandler
    Compare BoolOp And Or UnaryOp Not USub BinOp Add Sub Mult FloorDiv Mod List Tuple Dict ListComp comprehension
    IfExp Eq NotEq Lt LtE Gt GtE In NotIn Is IsNot BitAnd BitOr BitXor Invert LShift RShift Pow
    Lambda keyword JoinedStr FormattedValue Set""".split()

BUILT_IN = """len range enumerate zip min max sum abs sorted reversed int str bool list tuple dict set frozenset
    isinstance ord repr any all divmod Exception ValueError TypeError KeyError IndexError LookupError
    ZeroDivisionError ArithmeticError OverflowError RuntimeError NotImplementedError StopIteration""".split()

METHODS = """append clear copy count endswith extend find get index insert isalnum isalpha isdigit islower isspace
    isupper items join keys ljust lower lstrip partition pop remove replace reverse rfind rjust rpartition rsplit
    rstrip setdefault split splitlines startswith strip update upper values zfill bit_length""".split()

WORDS = r"\b(type|typing|enum|Enum|Flag|Generic|Protocol|ABC|NamedTuple|namedtuple)\b|dataclass|overload"


class Form(unittest.TestCase):
    def each(self, *kinds):
        for path in FILES:
            for node in ast.walk(ast.parse(path.read_text())):
                if not kinds or isinstance(node, kinds):
                    yield path.name, node

    def test_there_are_files(self):
        self.assertIn("desk.py", [path.name for path in FILES])

    def test_signs_and_sizes(self):
        for path in FILES:
            text = path.read_text()
            self.assertIsNone(re.search(r"[^ -~\n]", text), path.name)
            self.assertIsNone(re.search(WORDS, text), path.name)
            self.assertLessEqual(text.count("\n"), 400, path.name)
            self.assertLessEqual(max(len(line) for line in text.split("\n")), 120, path.name)
        for name, node in self.each(ast.FunctionDef):
            self.assertLessEqual(node.end_lineno - node.lineno + 1, 40, (name, node.name))

    def test_statements_and_expressions(self):
        for name, node in self.each():
            self.assertIn(type(node).__name__, NODES, (name, getattr(node, "lineno", 0)))

    def test_imports_are_the_packages_own(self):
        for name, node in self.each(ast.ImportFrom):
            self.assertEqual((node.level, node.module.split(".")[0]), (0, "smalltongue"), (name, node.lineno))

    def test_values(self):
        for name, node in self.each(ast.Constant):
            self.assertIn(type(node.value), (int, str, bool, type(None)), (name, node.lineno))
            self.assertFalse(isinstance(node.value, str) and "%" in node.value, (name, node.lineno))

    def test_names(self):
        for name, node in self.each(ast.Name):
            self.assertFalse(node.id.startswith("_"), (name, node.lineno))
            if hasattr(builtins, node.id):
                self.assertIn(node.id, BUILT_IN, (name, node.lineno))
                self.assertIsInstance(node.ctx, ast.Load, (name, node.lineno))
        for name, node in self.each(ast.arg):
            self.assertFalse(hasattr(builtins, node.arg), (name, node.lineno))

    def test_methods(self):
        own = {node.name for name, node in self.each(ast.FunctionDef)}
        for name, node in self.each(ast.Call):
            if isinstance(node.func, ast.Attribute):
                self.assertIn(node.func.attr, METHODS + sorted(own), (name, node.lineno))


if __name__ == "__main__":
    unittest.main()
