"""The package's own files keep to the part of Python that they may use, as far as a look at them can tell."""

import ast
import builtins
import pathlib
import re
import unittest

PACKAGE = pathlib.Path(__file__).parent.parent / "smalltongue"
FILES = sorted(PACKAGE.glob("*.py"))

NODES = """Module Expr Constant ImportFrom alias FunctionDef arguments arg Return ClassDef Pass Assign AugAssign
    Name Load Store Attribute Subscript Slice Call If While For Break Continue Raise Try ExceptHandler
    Compare BoolOp And Or UnaryOp Not USub BinOp Add Sub Mult FloorDiv Mod List Tuple Dict ListComp comprehension
    IfExp Eq NotEq Lt LtE Gt GtE In NotIn Is IsNot BitAnd BitOr BitXor Invert LShift RShift
    Lambda keyword""".split()

BUILT_IN = """len range enumerate zip min max sum abs sorted reversed int str bool list tuple dict set frozenset
    isinstance ord repr any all divmod Exception ValueError TypeError KeyError IndexError LookupError
    ZeroDivisionError ArithmeticError OverflowError RuntimeError NotImplementedError StopIteration""".split()

METHODS = """append clear copy count endswith extend find get index insert isalnum isalpha isdigit islower isspace
    isupper items join keys ljust lower lstrip partition pop remove replace reverse rfind rjust rpartition rsplit
    rstrip setdefault split splitlines startswith strip update upper values zfill bit_length""".split()

CHANGING = "append clear extend insert pop remove reverse setdefault update".split()

WALKED_AT_ONCE = "zip enumerate reversed range".split()

WORDS = r"\b(type|typing|enum|Enum|IntEnum|StrEnum|Flag|IntFlag|Generic|Protocol|ABC|ABCMeta|NamedTuple|namedtuple" \
    r"|TypedDict|typing_extensions|TYPE_CHECKING|abstractmethod)\b|dataclass|overload|contextmanager"

OUT_OF_USE = """register mro elements open input version_info with_traceback add_note attrgetter breakpoint builtins
    compile copyright credits delattr dir eval exec exit gc getattr globals hasattr help id importlib license locals
    methodcaller os quit setattr super vars sys chr print""".split()


def own_names_of_values():
    names = set()
    for value in ("", 0, [], {}, set(), b"", ()):
        names.update(dir(value))
    return names


def changed_in(tree):
    for node in ast.walk(tree):
        if isinstance(node, ast.Call) and isinstance(node.func, ast.Attribute) and node.func.attr in CHANGING:
            yield ast.unparse(node.func.value), node.lineno
        if isinstance(node, ast.Subscript) and isinstance(node.ctx, ast.Store):
            yield ast.unparse(node.value), node.lineno


def parsed():
    return {path.stem: ast.parse(path.read_text()) for path in FILES}


class Form(unittest.TestCase):
    def each(self, *kinds):
        for name, tree in parsed().items():
            for node in ast.walk(tree):
                if not kinds or isinstance(node, kinds):
                    yield name, node


class Files(Form):
    def test_only_files_of_python_lie_in_the_package(self):
        self.assertIn("desk", parsed())
        self.assertIn("__init__", parsed())
        for path in PACKAGE.iterdir():
            self.assertTrue(path.suffix == ".py" or path.name == "__pycache__", path.name)
            if path.stem != "__init__":
                self.assertRegex(path.stem, "^[a-z][a-z0-9_]*$")
                self.assertFalse(hasattr(builtins, path.stem), path.name)

    def test_signs_and_sizes(self):
        for path in FILES:
            text = path.read_text()
            self.assertIsNone(re.search(r"[^ -~\n]", text), path.name)
            self.assertIsNone(re.search(WORDS, text), path.name)
            self.assertLessEqual(text.count("\n"), 400, path.name)
            self.assertLessEqual(max(len(line) for line in text.split("\n")), 120, path.name)
        for name, node in self.each(ast.FunctionDef):
            self.assertLessEqual(node.end_lineno - node.lineno + 1, 40, (name, node.name))

    def test_the_top_of_a_file(self):
        for name, tree in parsed().items():
            bound = []
            for node in tree.body:
                kinds = (ast.Expr, ast.ImportFrom, ast.FunctionDef, ast.ClassDef, ast.Assign)
                self.assertIsInstance(node, kinds, (name, node.lineno))
                if isinstance(node, ast.Expr):
                    self.assertIsInstance(node.value, ast.Constant, (name, node.lineno))
                elif isinstance(node, ast.Assign):
                    bound.append(node.targets[0].id)
                    for inner in ast.walk(node.value):
                        kinds = (ast.Constant, ast.Tuple, ast.List, ast.Dict, ast.UnaryOp, ast.USub, ast.Load, ast.Name)
                        self.assertIsInstance(inner, kinds, (name, node.lineno))
                        if isinstance(inner, (ast.List, ast.Dict)):
                            self.assertEqual(inner, node.value, (name, node.lineno))
                elif isinstance(node, ast.ImportFrom):
                    bound += [alias.asname or alias.name for alias in node.names]
                else:
                    bound.append(node.name)
            self.assertEqual(len(bound), len(set(bound)), (name, bound))


class Imports(Form):
    def test_from_the_file_that_defines_the_name(self):
        trees = parsed()
        for name, node in self.each(ast.ImportFrom):
            self.assertEqual((node.level, node.module.split(".")[0]), (0, "smalltongue"), (name, node.lineno))
            tree = trees[node.module.split(".")[1]]
            there = [inner.name for inner in tree.body if isinstance(inner, (ast.FunctionDef, ast.ClassDef))]
            for alias in node.names:
                self.assertIn(alias.name, there, (name, node.lineno))
                self.assertIsNone(alias.asname, (name, node.lineno))

    def test_no_two_files_draw_from_one_another(self):
        drawn = {name: set() for name in parsed()}
        for name, node in self.each(ast.ImportFrom):
            drawn[name].add(node.module.split(".")[1])
        while drawn:
            free = [name for name in drawn if not drawn[name]]
            self.assertTrue(free, drawn)
            drawn = {name: drawn[name] - set(free) for name in drawn if name not in free}

    def test_each_import_is_used(self):
        for name, tree in parsed().items():
            used = {node.id for node in ast.walk(tree) if isinstance(node, ast.Name)}
            for node in tree.body:
                if isinstance(node, ast.ImportFrom):
                    self.assertLessEqual({alias.name for alias in node.names}, used, name)


class Statements(Form):
    def test_kinds(self):
        for name, node in self.each():
            self.assertIn(type(node).__name__, NODES, (name, getattr(node, "lineno", 0)))

    def test_one_target(self):
        for name, node in self.each(ast.Assign):
            self.assertEqual(len(node.targets), 1, (name, node.lineno))
            self.assertIsInstance(node.targets[0], (ast.Name, ast.Attribute, ast.Subscript), (name, node.lineno))

    def test_no_else_behind_a_loop_and_no_finally(self):
        for name, node in self.each(ast.For, ast.While):
            self.assertEqual(node.orelse, [], (name, node.lineno))
        for name, node in self.each(ast.Try):
            self.assertEqual(node.finalbody, [], (name, node.lineno))

    def test_functions_are_plain(self):
        for name, node in self.each(ast.FunctionDef):
            given = node.args
            self.assertEqual((given.vararg, given.kwarg, given.kwonlyargs, given.posonlyargs), (None, None, [], []))
            self.assertEqual((node.decorator_list, node.returns), ([], None), (name, node.lineno))
            for inner in given.args:
                self.assertIsNone(inner.annotation, (name, node.lineno))

    def test_errors_are_raised_and_taken_by_name(self):
        errors = [node.name for name, node in self.each(ast.ClassDef) if name == "refusals"]
        for name, node in self.each(ast.Raise):
            self.assertIn(node.exc.func.id, errors, (name, node.lineno))
            self.assertIsNone(node.cause, (name, node.lineno))
        for name, node in self.each(ast.ExceptHandler):
            self.assertIn(node.type.id, errors, (name, node.lineno))

    def test_is_stands_beside_none_true_and_false(self):
        for name, node in self.each(ast.Compare):
            if isinstance(node.ops[0], (ast.Is, ast.IsNot)):
                self.assertIn(ast.unparse(node.comparators[0]), ("None", "True", "False"), (name, node.lineno))

    def test_no_keywords_at_calls(self):
        for name, node in self.each(ast.Call):
            self.assertEqual(node.keywords, [], (name, node.lineno))


class Values(Form):
    def test_plain_values(self):
        for name, node in self.each(ast.Constant):
            self.assertIn(type(node.value), (int, str, bool, type(None)), (name, node.lineno))
            self.assertFalse(isinstance(node.value, str) and "%" in node.value, (name, node.lineno))

    def test_walked_on_the_spot(self):
        walked = [node.iter for name, node in self.each(ast.For, ast.comprehension)]
        walked = [ast.dump(node) for node in walked]
        for name, node in self.each(ast.Call):
            if isinstance(node.func, ast.Name) and node.func.id in WALKED_AT_ONCE:
                self.assertIn(ast.dump(node), walked, (name, node.lineno))

    def test_what_a_loop_walks_is_not_changed_in_it(self):
        for name, node in self.each(ast.For):
            walked = [inner for inner in ast.walk(node.iter) if isinstance(inner, (ast.Name, ast.Attribute))]
            walked = [ast.unparse(inner) for inner in walked]
            for changed, line in changed_in(node):
                self.assertNotIn(changed, walked, (name, line))

    def test_what_stands_at_a_files_top_is_only_read(self):
        for name, tree in parsed().items():
            top = [node.targets[0].id for node in tree.body if isinstance(node, ast.Assign)]
            for changed, line in changed_in(tree):
                self.assertNotIn(changed, top, (name, line))


class Names(Form):
    def test_names(self):
        for name, node in self.each(ast.Name):
            self.assertFalse(node.id.startswith("_"), (name, node.lineno))
            self.assertNotIn(node.id, OUT_OF_USE, (name, node.lineno))
            if hasattr(builtins, node.id):
                self.assertIn(node.id, BUILT_IN, (name, node.lineno))
                self.assertIsInstance(node.ctx, ast.Load, (name, node.lineno))
        for name, node in self.each(ast.arg):
            self.assertFalse(hasattr(builtins, node.arg), (name, node.lineno))

    def test_no_local_is_called_like_a_class_or_an_import(self):
        for name, tree in parsed().items():
            taken = [node.name for node in tree.body if isinstance(node, ast.ClassDef)]
            for node in tree.body:
                if isinstance(node, ast.ImportFrom):
                    taken += [alias.name for alias in node.names]
            for node in ast.walk(tree):
                if isinstance(node, ast.Name) and isinstance(node.ctx, ast.Store):
                    self.assertNotIn(node.id, taken, (name, node.lineno))
                if isinstance(node, ast.arg):
                    self.assertNotIn(node.arg, taken, (name, node.lineno))

    def test_methods_that_are_called(self):
        own = {node.name for name, node in self.each(ast.FunctionDef)}
        for name, node in self.each(ast.Call):
            if isinstance(node.func, ast.Attribute):
                self.assertIn(node.func.attr, METHODS + sorted(own), (name, node.lineno))

    def test_classes(self):
        methods = []
        for name, node in self.each(ast.ClassDef):
            self.assertEqual(node.decorator_list, [], (name, node.lineno))
            self.assertIn([ast.unparse(base) for base in node.bases], ([], ["Exception"]), (name, node.lineno))
            for inner in node.body:
                self.assertIsInstance(inner, (ast.FunctionDef, ast.Pass), (name, inner.lineno))
                if isinstance(inner, ast.FunctionDef) and inner.name != "__init__":
                    methods.append(inner.name)
        called = [node.func for name, node in self.each(ast.Call)]
        called = {node.attr for node in called if isinstance(node, ast.Attribute)}
        values = {node.attr for name, node in self.each(ast.Attribute) if isinstance(node.ctx, ast.Store)}
        self.assertEqual(values & set(methods), set())
        self.assertEqual(values & called, set())
        self.assertEqual((values | set(methods)) & own_names_of_values(), set())


if __name__ == "__main__":
    unittest.main()
