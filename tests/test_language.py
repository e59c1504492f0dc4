"""The package keeps to the small part of Python that it is written in (what of that a test can see).

Where a rule allows something under conditions that the package has no need of, the test allows nothing of it.
"""

import ast
import builtins
import io
import keyword
import pathlib
import re
import tokenize
import unittest

FOLDER = pathlib.Path(__file__).resolve().parent.parent / "piecehouse"

KINDS = """Module Expr Constant Assign AugAssign Name Attribute Subscript Slice Load Store Tuple List Dict Set ListComp
comprehension FunctionDef arguments arg Lambda ClassDef Return If While For Break Continue Pass Raise Try ExceptHandler
Call keyword ImportFrom alias BinOp Add Sub Mult FloorDiv Mod Pow BitAnd BitOr BitXor LShift RShift UnaryOp USub Not
Invert BoolOp And Or Compare Eq NotEq Lt LtE Gt GtE In NotIn Is IsNot IfExp JoinedStr FormattedValue""".split()

PYTHONS_NAMES = """len range enumerate zip min max sum abs sorted reversed int str bool list tuple dict set frozenset
isinstance ord repr any all divmod Exception ValueError TypeError KeyError IndexError LookupError ZeroDivisionError
ArithmeticError OverflowError RuntimeError NotImplementedError AttributeError StopIteration""".split()

PYTHONS_METHODS = """append clear copy count endswith extend find get index insert isalnum isalpha isdigit islower
isspace isupper items join keys ljust lower lstrip partition pop remove replace reverse rfind rjust rpartition rsplit
rstrip setdefault split splitlines startswith strip update upper values zfill bit_length""".split()

WORDS_NOWHERE = """type typing typing_extensions enum Enum IntEnum StrEnum Flag IntFlag Generic Protocol ABC ABCMeta
namedtuple NamedTuple TypedDict TYPE_CHECKING abstractmethod""".split()

WORDS_WITHIN_NO_WORD = ("dataclass", "overload", "contextmanager")

NOT_AS_NAMES = """register mro elements open input version_info with_traceback add_note format format_map attrgetter
breakpoint builtins compile copyright credits delattr dir eval exec exit gc getattr globals hasattr help id importlib
license locals methodcaller os quit setattr super sys type vars""".split()

NOT_AS_FILES = """test tests testing site conftest sitecustomize usercustomize""".split()

CHANGES = "append clear extend insert pop remove reverse setdefault update".split()

WALKED_AT_ONCE = "zip enumerate reversed range".split()

DOUBLE = ("__init__", "__eq__", "__repr__", "__str__", "__len__")


def sources():
    return {path: path.read_text(encoding="utf-8") for path in sorted(FOLDER.glob("*.py"))}


def trees():
    return {path: ast.parse(source) for path, source in sources().items()}


def walk(kind):
    return [(path.name, node) for path, tree in trees().items() for node in ast.walk(tree) if isinstance(node, kind)]


def bound_in(tree):
    """All names that a file binds anywhere, and those of its parameters."""
    found = set()
    for node in ast.walk(tree):
        if isinstance(node, (ast.FunctionDef, ast.ClassDef)):
            found.add(node.name)
        elif isinstance(node, ast.arg):
            found.add(node.arg)
        elif isinstance(node, ast.alias):
            found.add(node.asname or node.name)
        elif isinstance(node, ast.Name) and isinstance(node.ctx, ast.Store):
            found.add(node.id)
    return found


def bound_at_top(node):
    if isinstance(node, ast.ImportFrom):
        return [alias.asname or alias.name for alias in node.names]
    if isinstance(node, ast.Assign):
        return [node.targets[0].id]
    return [node.name] if isinstance(node, (ast.FunctionDef, ast.ClassDef)) else []


def parents():
    """Each node of all files with the one above it."""
    return [(name, above, node) for name, above in walk(ast.AST) for node in ast.iter_child_nodes(above)]


def locals_of(function):
    given = [one.arg for one in function.args.args]
    return given + [node.id for node in ast.walk(function) if isinstance(node, ast.Name) and isinstance(node.ctx, ast.Store)]


def is_plain(value):
    if isinstance(value, (ast.List, ast.Tuple)):
        return all(is_plain(one) for one in value.elts)
    if isinstance(value, ast.UnaryOp):
        return isinstance(value.op, ast.USub) and is_plain(value.operand)
    return isinstance(value, ast.Constant) and isinstance(value.value, (int, str, bool, type(None)))


class Language(unittest.TestCase):
    def test_files_and_signs(self):
        for path in FOLDER.iterdir():
            if path.name != "__pycache__":
                self.assertRegex(path.name, r"^[a-z][a-z0-9_]*\.py$|^__init__\.py$")
        for path, source in sources().items():
            self.assertIsNone(re.search("[^ -~\n]", source), path.name)
            self.assertEqual([word for word in re.findall(r"\w+", source) if word in WORDS_NOWHERE], [], path.name)
            self.assertEqual([word for word in WORDS_WITHIN_NO_WORD if word in source], [], path.name)
            self.assertNotIn(path.stem, NOT_AS_FILES + WORDS_NOWHERE + list(vars(builtins)) + keyword.kwlist)
            self.assertFalse(path.stem.startswith("test_"), path.name)

    def test_sizes(self):
        for path, source in sources().items():
            rows = source.split("\n")
            self.assertLessEqual(len(rows), 400, path.name)
            self.assertLessEqual(max(map(len, rows)), 120, path.name)
        for name, node in walk(ast.FunctionDef):
            self.assertLessEqual(node.end_lineno - node.lineno + 1, 40, (name, node.name))

    def test_kinds_of_expressions_and_statements(self):
        for name, node in walk(ast.AST):
            self.assertIn(type(node).__name__, KINDS, (name, getattr(node, "lineno", 0)))
        for name, node in walk(ast.Constant):
            self.assertIsInstance(node.value, (int, str, type(None)), (name, node.lineno))
        for name, node in walk(ast.Assign):
            self.assertEqual(len(node.targets), 1, (name, node.lineno))
            self.assertNotIsInstance(node.targets[0], (ast.Tuple, ast.List), (name, node.lineno))
        for name, node in walk((ast.For, ast.While)):
            self.assertEqual(node.orelse, [], (name, node.lineno))
        for name, node in walk(ast.ListComp):
            self.assertEqual(len(node.generators), 1, (name, node.lineno))
            self.assertLessEqual(len(node.generators[0].ifs), 1, (name, node.lineno))
        self.assertEqual(walk((ast.Set, ast.Pow, ast.Lambda, ast.Try, ast.JoinedStr)), [])

    def test_the_top_of_a_file(self):
        for path, tree in trees().items():
            for node in tree.body[1:]:
                self.assertIsInstance(node, (ast.ImportFrom, ast.FunctionDef, ast.ClassDef, ast.Assign), path.name)
                if isinstance(node, ast.Assign):
                    self.assertTrue(is_plain(node.value), (path.name, node.lineno))
                    self.assertNotIsInstance(node.value, (ast.List, ast.Dict), (path.name, node.lineno))
            self.assertIsNotNone(ast.get_docstring(tree), path.name)
            names = [name for node in tree.body for name in bound_at_top(node)]
            self.assertEqual(len(names), len(set(names)), path.name)

    def test_imports(self):
        tops = {path.stem: {node.name for node in tree.body if isinstance(node, (ast.FunctionDef, ast.ClassDef))}
                | {node.targets[0].id for node in tree.body if isinstance(node, ast.Assign)}
                for path, tree in trees().items()}
        drawn = {}
        for path, tree in trees().items():
            for node in ast.walk(tree):
                if isinstance(node, ast.ImportFrom):
                    self.assertEqual((node.level, node.module.split(".")[0]), (0, "piecehouse"), path.name)
                    source = node.module.split(".")[1]
                    self.assertLessEqual({alias.name for alias in node.names}, tops[source], path.name)
                    drawn.setdefault(path.stem, set()).add(source)
        while drawn:
            free = [name for name, sources_of in drawn.items() if not sources_of & set(drawn)]
            self.assertTrue(free, "files draw from one another")
            drawn = {name: sources_of for name, sources_of in drawn.items() if name not in free}

    def test_functions_and_classes(self):
        for name, node in walk(ast.FunctionDef):
            given = node.args
            self.assertEqual((node.decorator_list, given.vararg, given.kwarg, given.kwonlyargs, given.posonlyargs),
                             ([], None, None, [], []), (name, node.name))
            self.assertTrue(all(is_plain(value) for value in given.defaults), (name, node.name))
            self.assertEqual([node.returns] + [one.annotation for one in given.args], [None] * (1 + len(given.args)), (name, node.name))
            if node.name == "__init__":
                self.assertEqual([one for one in ast.walk(node) if isinstance(one, ast.Return)], [], name)
            elif node.name.startswith("__"):
                self.fail((name, node.name))
        for name, node in walk(ast.ClassDef):
            self.assertEqual((node.decorator_list, node.bases, node.keywords), ([], [], []), (name, node.name))
            methods = [one.name for one in node.body if isinstance(one, ast.FunctionDef)]
            self.assertEqual(len(methods), len(set(methods)), (name, node.name))
            for one in node.body:
                if isinstance(one, ast.Expr):
                    self.assertIsInstance(one.value, ast.Constant, (name, node.name))
                else:
                    self.assertIsInstance(one, ast.FunctionDef, (name, node.name))

    def test_names(self):
        for path, tree in trees().items():
            bound = bound_in(tree)
            for name in bound:
                self.assertTrue(re.fullmatch("[A-Za-z][A-Za-z0-9_]*", name) or name in DOUBLE, (path.name, name))
                self.assertNotIn(name, set(vars(builtins)) - set(DOUBLE), path.name)
                self.assertNotIn(name, NOT_AS_NAMES, path.name)
            for node in ast.walk(tree):
                if isinstance(node, ast.Name) and node.id not in bound:
                    self.assertIn(node.id, PYTHONS_NAMES, (path.name, node.lineno))

    def test_locals_are_called_like_nothing_else(self):
        for path, tree in trees().items():
            taken = [name for node in tree.body if not isinstance(node, ast.Assign) for name in bound_at_top(node)]
            for node in ast.walk(tree):
                if isinstance(node, ast.FunctionDef):
                    self.assertEqual(set(locals_of(node)) & set(taken), set(), (path.name, node.name))

    def test_classes_and_pythons_own_are_called_on_the_spot(self):
        classes = [node.name for name, node in walk(ast.ClassDef)]
        for name, above, node in parents():
            if isinstance(node, ast.Name) and node.id in classes + PYTHONS_NAMES:
                self.assertIsInstance(above, ast.Call, (name, node.lineno))
                self.assertEqual(above.func, node, (name, node.lineno))
                self.assertNotIn(node.id, ("set", "frozenset"), (name, node.lineno))
        for name, node in walk(ast.Call):
            if node.keywords:
                self.assertIn(node.func.id, ("max", "min"), (name, node.lineno))
                self.assertEqual([one.arg for one in node.keywords], ["default"], (name, node.lineno))

    def test_walked_at_once_and_not_changed_meanwhile(self):
        for name, above, node in parents():
            if isinstance(node, ast.Call) and isinstance(node.func, ast.Name) and node.func.id in WALKED_AT_ONCE:
                self.assertIsInstance(above, (ast.For, ast.comprehension), (name, node.lineno))
                self.assertEqual(above.iter, node, (name, node.lineno))
            if isinstance(node, ast.Attribute):
                self.assertNotIn(node.attr, ("items", "keys", "values"), (name, node.lineno))
        for name, loop in walk(ast.For):
            walked = {node.id for node in ast.walk(loop.iter) if isinstance(node, ast.Name)}
            for node in [node for one in loop.body for node in ast.walk(one)]:
                if isinstance(node, ast.Call) and isinstance(node.func, ast.Attribute) and node.func.attr in CHANGES:
                    self.assertNotIn(ast.unparse(node.func.value), walked, (name, node.lineno))
                if isinstance(node, ast.Subscript) and isinstance(node.ctx, ast.Store):
                    self.assertNotIn(ast.unparse(node.value), walked, (name, node.lineno))

    def test_texts(self):
        for path, source in sources().items():
            for token in tokenize.generate_tokens(io.StringIO(source).readline):
                if token.type == tokenize.STRING:
                    self.assertNotIn("\\", token.string, (path.name, token.start))
                    self.assertNotIn("%", token.string, (path.name, token.start))

    def test_nothing_calls_itself(self):
        called = {}
        for name, node in walk(ast.FunctionDef):
            functions = [one.func for one in ast.walk(node) if isinstance(one, ast.Call)]
            called.setdefault(node.name, set()).update(
                one.id if isinstance(one, ast.Name) else one.attr for one in functions)
        while called:
            free = [name for name, others in called.items() if not others & set(called)]
            self.assertTrue(free, "functions call one another")
            called = {name: others for name, others in called.items() if name not in free}

    def test_methods_and_values(self):
        methods = {one.name for name, node in walk(ast.ClassDef) for one in node.body if isinstance(one, ast.FunctionDef)}
        stored = {node.attr for name, node in walk(ast.Attribute) if isinstance(node.ctx, ast.Store)}
        self.assertEqual(methods & stored, set())
        for path, tree in trees().items():
            for node in ast.walk(tree):
                if isinstance(node, ast.Call) and isinstance(node.func, ast.Attribute):
                    self.assertIn(node.func.attr, methods | set(PYTHONS_METHODS), (path.name, node.lineno))
        for name, above, node in parents():
            if isinstance(node, ast.Attribute):
                self.assertNotIn(node.attr, NOT_AS_NAMES, (name, node.lineno))
                if isinstance(node.ctx, ast.Store):
                    self.assertEqual(ast.unparse(node.value), "self", (name, node.lineno))
                elif node.attr not in stored:
                    self.assertEqual((type(above), above.func), (ast.Call, node), (name, node.lineno))
        kinds = (str, int, list, dict, set, bytes, tuple)
        for value in stored:
            self.assertFalse(any(hasattr(kind, value) for kind in kinds), value)
            self.assertNotIn(value, NOT_AS_NAMES)

    def test_is_stands_beside_none_alone(self):
        for name, node in walk(ast.Compare):
            for op, right in zip(node.ops, node.comparators):
                if isinstance(op, (ast.Is, ast.IsNot)):
                    self.assertIn(ast.dump(right), [ast.dump(ast.Constant(one)) for one in (None, True, False)], name)
