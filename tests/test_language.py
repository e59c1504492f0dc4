"""The package keeps to the small part of Python that it is written in (what of that a test can see)."""

import ast
import builtins
import pathlib
import re
import unittest

FOLDER = pathlib.Path(__file__).resolve().parent.parent / "piecehouse"

KINDS = """Module Expr Constant Assign AugAssign Name Attribute Subscript Slice Load Store Tuple List Dict Set ListComp
comprehension FunctionDef arguments arg Lambda ClassDef Return If While For Break Continue Pass Raise Try ExceptHandler
Call keyword ImportFrom alias BinOp Add Sub Mult FloorDiv Mod Pow BitAnd BitOr BitXor LShift RShift UnaryOp USub Not
Invert BoolOp And Or Compare Eq NotEq Lt LtE Gt GtE In NotIn Is IsNot IfExp JoinedStr FormattedValue""".split()

PYTHONS_NAMES = """len range enumerate zip min max sum abs sorted reversed int str bool list tuple dict set frozenset
isinstance ord repr any all divmod Exception ValueError TypeError KeyError IndexError LookupError ZeroDivisionError
ArithmeticError OverflowError RuntimeError NotImplementedError AttributeError StopIteration""".split()

PYTHONS_METHODS = """append clear copy count endswith extend find get index insert isalnum isalpha isdigit islower
isspace isupper items join keys ljust lower lstrip partition pop remove replace reverse rfind rjust rpartition rsplit
rstrip setdefault split splitlines startswith strip update upper values zfill bit_length""".split()

WORDS_NOWHERE = """type typing typing_extensions enum Enum IntEnum StrEnum Flag IntFlag Generic Protocol ABC ABCMeta
namedtuple NamedTuple TypedDict TYPE_CHECKING abstractmethod""".split()

NOT_AS_NAMES = "register mro elements open input version_info with_traceback add_note format format_map".split()

DOUBLE = ("__init__", "__eq__", "__repr__", "__str__", "__len__")


def sources():
    return {path: path.read_text(encoding="utf-8") for path in sorted(FOLDER.glob("*.py"))}


def trees():
    return {path: ast.parse(source) for path, source in sources().items()}


def walk(kind):
    return [(path.name, node) for path, tree in trees().items() for node in ast.walk(tree) if isinstance(node, kind)]


def bound_in(tree):
    """All names that a file binds anywhere, and those of its parameters."""
    found = set()
    for node in ast.walk(tree):
        if isinstance(node, (ast.FunctionDef, ast.ClassDef)):
            found.add(node.name)
        elif isinstance(node, ast.arg):
            found.add(node.arg)
        elif isinstance(node, ast.alias):
            found.add(node.asname or node.name)
        elif isinstance(node, ast.Name) and isinstance(node.ctx, ast.Store):
            found.add(node.id)
    return found


def is_plain(value):
    if isinstance(value, (ast.List, ast.Tuple)):
        return all(is_plain(one) for one in value.elts)
    if isinstance(value, ast.UnaryOp):
        return isinstance(value.op, ast.USub) and is_plain(value.operand)
    return isinstance(value, ast.Constant) and isinstance(value.value, (int, str, bool, type(None)))


class Language(unittest.TestCase):
    def test_files_and_signs(self):
        for path in FOLDER.iterdir():
            if path.name != "__pycache__":
                self.assertRegex(path.name, r"^[a-z][a-z0-9_]*\.py$|^__init__\.py$")
        for path, source in sources().items():
            self.assertIsNone(re.search("[^ -~\n]", source), path.name)
            self.assertEqual([word for word in re.findall(r"\w+", source) if word in WORDS_NOWHERE], [], path.name)

    def test_sizes(self):
        for path, source in sources().items():
            rows = source.split("\n")
            self.assertLessEqual(len(rows), 400, path.name)
            self.assertLessEqual(max(map(len, rows)), 120, path.name)
        for name, node in walk(ast.FunctionDef):
            self.assertLessEqual(node.end_lineno - node.lineno + 1, 40, (name, node.name))

    def test_kinds_of_expressions_and_statements(self):
        for name, node in walk(ast.AST):
            self.assertIn(type(node).__name__, KINDS, (name, getattr(node, "lineno", 0)))
        for name, node in walk(ast.Constant):
            self.assertIsInstance(node.value, (int, str, type(None)), (name, node.lineno))
        for name, node in walk(ast.Assign):
            self.assertEqual(len(node.targets), 1, (name, node.lineno))
            self.assertNotIsInstance(node.targets[0], (ast.Tuple, ast.List), (name, node.lineno))
        for name, node in walk((ast.For, ast.While)):
            self.assertEqual(node.orelse, [], (name, node.lineno))

    def test_the_top_of_a_file(self):
        for path, tree in trees().items():
            for node in tree.body[1:]:
                self.assertIsInstance(node, (ast.ImportFrom, ast.FunctionDef, ast.ClassDef, ast.Assign), path.name)
                if isinstance(node, ast.Assign):
                    self.assertTrue(is_plain(node.value), (path.name, node.lineno))
            self.assertIsNotNone(ast.get_docstring(tree), path.name)

    def test_imports(self):
        tops = {path.stem: {node.name for node in tree.body if isinstance(node, (ast.FunctionDef, ast.ClassDef))}
                | {node.targets[0].id for node in tree.body if isinstance(node, ast.Assign)}
                for path, tree in trees().items()}
        drawn = {}
        for path, tree in trees().items():
            for node in ast.walk(tree):
                if isinstance(node, ast.ImportFrom):
                    self.assertEqual((node.level, node.module.split(".")[0]), (0, "piecehouse"), path.name)
                    source = node.module.split(".")[1]
                    self.assertLessEqual({alias.name for alias in node.names}, tops[source], path.name)
                    drawn.setdefault(path.stem, set()).add(source)
        while drawn:
            free = [name for name, sources_of in drawn.items() if not sources_of & set(drawn)]
            self.assertTrue(free, "files draw from one another")
            drawn = {name: sources_of for name, sources_of in drawn.items() if name not in free}

    def test_functions_and_classes(self):
        for name, node in walk(ast.FunctionDef):
            given = node.args
            self.assertEqual((node.decorator_list, given.vararg, given.kwarg, given.kwonlyargs, given.posonlyargs),
                             ([], None, None, [], []), (name, node.name))
        for name, node in walk(ast.ClassDef):
            self.assertEqual(node.decorator_list, [], (name, node.name))
            for one in node.body:
                if isinstance(one, ast.Expr):
                    self.assertIsInstance(one.value, ast.Constant, (name, node.name))
                else:
                    self.assertIsInstance(one, ast.FunctionDef, (name, node.name))

    def test_names(self):
        for path, tree in trees().items():
            bound = bound_in(tree)
            for name in bound:
                self.assertTrue(re.fullmatch("[A-Za-z][A-Za-z0-9_]*", name) or name in DOUBLE, (path.name, name))
                self.assertNotIn(name, set(vars(builtins)) - set(DOUBLE), path.name)
                self.assertNotIn(name, NOT_AS_NAMES, path.name)
            for node in ast.walk(tree):
                if isinstance(node, ast.Name) and node.id not in bound:
                    self.assertIn(node.id, PYTHONS_NAMES, (path.name, node.lineno))

    def test_methods_and_values(self):
        methods = {one.name for name, node in walk(ast.ClassDef) for one in node.body if isinstance(one, ast.FunctionDef)}
        stored = {node.attr for name, node in walk(ast.Attribute) if isinstance(node.ctx, ast.Store)}
        self.assertEqual(methods & stored, set())
        for path, tree in trees().items():
            for node in ast.walk(tree):
                if isinstance(node, ast.Call) and isinstance(node.func, ast.Attribute):
                    self.assertIn(node.func.attr, methods | set(PYTHONS_METHODS), (path.name, node.lineno))
        kinds = (str, int, list, dict, set, bytes, tuple)
        for value in stored:
            self.assertFalse(any(hasattr(kind, value) for kind in kinds), value)
            self.assertNotIn(value, NOT_AS_NAMES)

    def test_is_stands_beside_none_alone(self):
        for name, node in walk(ast.Compare):
            for op, right in zip(node.ops, node.comparators):
                if isinstance(op, (ast.Is, ast.IsNot)):
                    self.assertIn(ast.dump(right), [ast.dump(ast.Constant(one)) for one in (None, True, False)], name)
