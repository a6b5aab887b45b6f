"""The package keeps to the small part of Python that is asked for, as far as its text shows it."""

import ast
import builtins
import pathlib
import re
import unittest

PACKAGE = pathlib.Path(__file__).resolve().parent.parent / "condwords"

STATEMENTS = (
    ast.FunctionDef, ast.ClassDef, ast.Return, ast.Assign, ast.AugAssign, ast.For, ast.While, ast.If, ast.Raise, ast.Try,
    ast.ImportFrom, ast.Expr, ast.Pass, ast.Break, ast.Continue,
)
EXPRESSIONS = (
    ast.BoolOp, ast.BinOp, ast.UnaryOp, ast.Lambda, ast.IfExp, ast.Dict, ast.Set, ast.ListComp, ast.Compare, ast.Call,
    ast.JoinedStr, ast.FormattedValue, ast.Constant, ast.Attribute, ast.Subscript, ast.Name, ast.List, ast.Tuple, ast.Slice,
)
BUILT_IN = (
    "len range enumerate zip min max sum abs sorted reversed int str bool list tuple dict set frozenset isinstance ord "
    "repr any all divmod Exception ValueError TypeError KeyError IndexError LookupError ZeroDivisionError ArithmeticError "
    "OverflowError RuntimeError NotImplementedError AttributeError StopIteration True False None"
).split()
METHODS = (
    "append clear copy count endswith extend find get index insert isalnum isalpha isdigit islower isspace isupper items "
    "join keys ljust lower lstrip partition pop remove replace reverse rfind rjust rpartition rsplit rstrip setdefault "
    "split splitlines startswith strip update upper values zfill bit_length"
).split()
WORDS_NOWHERE = (
    "type typing typing_extensions enum Enum IntEnum StrEnum Flag IntFlag Generic Protocol ABC ABCMeta namedtuple "
    "NamedTuple TypedDict TYPE_CHECKING abstractmethod"
).split()
NAMES_NOWHERE = (
    "register mro elements open input version_info with_traceback add_note attrgetter breakpoint builtins compile copyright "
    "credits delattr dir eval exec exit gc getattr globals hasattr help id importlib license locals methodcaller os quit "
    "setattr super type vars sys"
).split()
OWN_DUNDERS = ("__init__", "__eq__", "__repr__", "__str__", "__len__")


def files():
    return sorted(path for path in PACKAGE.rglob("*") if "__pycache__" not in path.parts)


def trees():
    return [(path, ast.parse(path.read_text(encoding="utf-8"))) for path in files() if path.suffix == ".py"]


def bound_names(tree):
    """Each name that a file binds: functions, classes, parameters, locals."""
    names = []
    for node in ast.walk(tree):
        if isinstance(node, (ast.FunctionDef, ast.ClassDef)):
            names.append(node.name)
        elif isinstance(node, ast.arg):
            names.append(node.arg)
        elif isinstance(node, ast.Name) and isinstance(node.ctx, ast.Store):
            names.append(node.id)
    return names


def imports(tree):
    return [node for node in tree.body if isinstance(node, ast.ImportFrom)]


def top_names(tree):
    names = []
    for node in tree.body:
        if isinstance(node, (ast.FunctionDef, ast.ClassDef)):
            names.append(node.name)
        elif isinstance(node, ast.Assign):
            names.append(node.targets[0].id)
    return names


class Files(unittest.TestCase):
    def test_one_folder_of_plain_files(self):
        for path in files():
            self.assertTrue(path.is_file(), path)
            self.assertRegex(path.name, r"^[a-z0-9_]+\.py$")
            self.assertNotIn(path.stem, dir(builtins))
        self.assertTrue((PACKAGE / "__init__.py").is_file())

    def test_signs_and_sizes(self):
        for path in files():
            text = path.read_text(encoding="utf-8")
            self.assertIsNone(re.search(r"[^ -~\n]", text), path)
            self.assertLessEqual(len(text.splitlines()), 400, path)
            for line in text.splitlines():
                self.assertLessEqual(len(line), 120, path)

    def test_words(self):
        for path in files():
            text = path.read_text(encoding="utf-8")
            for word in re.findall(r"\w+", text):
                self.assertNotIn(word, WORDS_NOWHERE, path)
                self.assertIsNone(re.search("dataclass|overload|contextmanager", word), path)


class Tops(unittest.TestCase):
    def test_imports(self):
        defined = {"condwords." + path.stem: top_names(tree) for path, tree in trees()}
        for path, tree in trees():
            for node in ast.walk(tree):
                if isinstance(node, (ast.Import, ast.ImportFrom)):
                    self.assertIn(node, imports(tree), path)
                    self.assertEqual(node.level, 0, path)
                    for name in node.names:
                        self.assertIsNone(name.asname)
                        self.assertIn(name.name, defined[node.module], path)

    def test_no_circle(self):
        draws = {"condwords." + path.stem: [node.module for node in imports(tree)] for path, tree in trees()}
        self.assertEqual(draws["condwords.__init__"], [])
        left = dict(draws)
        while left:
            free = [name for name, drawn in left.items() if not any(other in left for other in drawn)]
            self.assertNotEqual(free, [], left)
            for name in free:
                left.pop(name)

    def test_plain_values_once(self):
        for path, tree in trees():
            names = top_names(tree) + [name.name for node in imports(tree) for name in node.names]
            self.assertEqual(sorted(names), sorted(set(names)), path)
            for node in tree.body:
                self.assertIsInstance(node, (ast.FunctionDef, ast.ClassDef, ast.ImportFrom, ast.Assign, ast.Expr), path)
                if isinstance(node, ast.Assign):
                    ast.literal_eval(node.value)
                if isinstance(node, ast.Expr):
                    self.assertIs(node, tree.body[0], path)
                    self.assertIsInstance(node.value.value, str)


class Code(unittest.TestCase):
    def test_statements_and_expressions(self):
        for path, tree in trees():
            for node in ast.walk(tree):
                if isinstance(node, ast.stmt):
                    self.assertIsInstance(node, STATEMENTS, (path, node.lineno))
                if isinstance(node, ast.expr):
                    self.assertIsInstance(node, EXPRESSIONS, (path, node.lineno))

    def test_forms(self):
        for path, tree in trees():
            for node in ast.walk(tree):
                where = (path, getattr(node, "lineno", 0))
                if isinstance(node, ast.Assign):
                    self.assertEqual(len(node.targets), 1, where)
                    self.assertNotIsInstance(node.targets[0], (ast.Tuple, ast.List), where)
                if isinstance(node, (ast.For, ast.While)):
                    self.assertEqual(node.orelse, [], where)
                if isinstance(node, ast.Try):
                    self.assertEqual(node.finalbody, [], where)
                if isinstance(node, ast.ListComp):
                    self.assertEqual(len(node.generators), 1, where)
                    self.assertLessEqual(len(node.generators[0].ifs), 1, where)
                if isinstance(node, ast.Constant):
                    self.assertNotIsInstance(node.value, (float, complex, bytes), where)
                if isinstance(node, ast.Constant) and isinstance(node.value, str):
                    self.assertNotIn("%", node.value, where)
                self.assertNotIsInstance(node, (ast.Div, ast.MatMult, ast.Pow), where)
                if isinstance(node, ast.Compare):
                    self.assertFalse(any(isinstance(op, (ast.Is, ast.IsNot)) for op in node.ops), where)

    def test_functions(self):
        for path, tree in trees():
            for node in ast.walk(tree):
                if isinstance(node, ast.FunctionDef):
                    where = (path, node.lineno)
                    self.assertLessEqual(node.end_lineno - node.lineno + 1, 40, where)
                    self.assertEqual(node.decorator_list, [], where)
                    self.assertIsNone(node.returns, where)
                    rest = node.args
                    self.assertEqual((rest.vararg, rest.kwarg, rest.kwonlyargs, rest.posonlyargs), (None, None, [], []))
                    self.assertTrue(all(arg.annotation is None for arg in rest.args), where)

    def test_names(self):
        for path, tree in trees():
            drawn = [name.name for node in imports(tree) for name in node.names]
            for name in bound_names(tree):
                self.assertNotIn(name, drawn, path)
                self.assertNotIn(name, dir(builtins), path)
                self.assertNotIn(name, NAMES_NOWHERE, path)
                self.assertTrue(name in OWN_DUNDERS or re.match(r"^[A-Za-z]\w*$", name, re.ASCII), (path, name))
            known = drawn + bound_names(tree) + BUILT_IN
            for node in ast.walk(tree):
                if isinstance(node, ast.Name):
                    self.assertIn(node.id, known, (path, node.lineno))

    def test_attributes(self):
        methods, values = [], []
        for path, tree in trees():
            for node in ast.walk(tree):
                if isinstance(node, ast.ClassDef):
                    methods += [part.name for part in node.body if isinstance(part, ast.FunctionDef)]
                if isinstance(node, ast.Attribute) and isinstance(node.ctx, ast.Store):
                    values.append(node.attr)
        own = set(methods) | set(values)
        self.assertEqual(set(methods) & set(values), set())
        for kind in (str, int, list, dict, set, bytes):
            self.assertEqual([name for name in own if name in dir(kind) and name not in OWN_DUNDERS], [])
        for path, tree in trees():
            for node in ast.walk(tree):
                if isinstance(node, ast.Attribute):
                    self.assertTrue(node.attr in own or node.attr in METHODS, (path, node.lineno))
