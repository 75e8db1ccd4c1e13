"""That the package keeps to the part of Python that it is written in, as far as a look at its code can tell."""

import ast
import builtins
import pathlib
import re
import unittest

PACKAGE = pathlib.Path(__file__).resolve().parent.parent / "keyblocks"

OWN_NAMES = set("""
    len range enumerate zip min max sum abs sorted reversed int str bool list tuple dict set frozenset isinstance ord
    repr any all divmod Exception ValueError TypeError KeyError IndexError LookupError ZeroDivisionError
    ArithmeticError OverflowError RuntimeError NotImplementedError AttributeError StopIteration
    """.split())
METHODS = set("""
    append clear copy count endswith extend find get index insert isalnum isalpha isdigit islower isspace isupper items
    join keys ljust lower lstrip partition pop remove replace reverse rfind rjust rpartition rsplit rstrip setdefault
    split splitlines startswith strip update upper values zfill bit_length
    """.split())
VALUES_NOT_USED = set("""
    items keys values pop update append clear extend insert remove reverse setdefault sort args encode format
    """.split())
NAMES_NOT_USED = set("register mro elements open input version_info with_traceback add_note".split())
WORDS_NOT_USED = re.compile(
    r"\b(type|typing|typing_extensions|enum|Enum|IntEnum|StrEnum|Flag|IntFlag|Generic|Protocol|ABC|ABCMeta|namedtuple"
    r"|NamedTuple|TypedDict|TYPE_CHECKING|abstractmethod)\b|dataclass|overload|contextmanager")
DOUBLE = {"__init__", "__eq__", "__repr__", "__str__", "__len__"}

NODES = (
    ast.Module, ast.FunctionDef, ast.ClassDef, ast.arguments, ast.arg, ast.ImportFrom, ast.alias,
    ast.Assign, ast.AugAssign, ast.If, ast.While, ast.For, ast.Return, ast.Break, ast.Continue, ast.Pass, ast.Raise,
    ast.Try, ast.ExceptHandler, ast.Expr, ast.Constant, ast.List, ast.Tuple, ast.Dict, ast.Name, ast.Attribute,
    ast.Subscript, ast.Slice, ast.Call, ast.keyword, ast.IfExp, ast.Compare, ast.BoolOp, ast.BinOp, ast.UnaryOp,
    ast.ListComp, ast.comprehension, ast.expr_context, ast.boolop, ast.operator, ast.unaryop, ast.cmpop)


class TestLanguage(unittest.TestCase):
    def setUp(self):
        self.sources = {path: path.read_bytes().decode("ascii") for path in sorted(PACKAGE.glob("*.py"))}
        self.trees = {path: ast.parse(source) for path, source in self.sources.items()}
        self.assertTrue(self.trees)

    def nodes(self, *kinds):
        return [(path.name, node) for path, tree in self.trees.items() for node in ast.walk(tree)
                if isinstance(node, kinds)]

    def test_files(self):
        for path in PACKAGE.iterdir():
            if path.name not in ("__pycache__", "__init__.py"):
                self.assertRegex(path.name, r"^[a-z][a-z0-9_]*\.py$")
                self.assertFalse(hasattr(builtins, path.stem), path.name)

    def test_signs_and_sizes(self):
        for path, source in self.sources.items():
            self.assertRegex(source, r"\A[ -~\n]*\Z", path.name)
            self.assertNotRegex(source, WORDS_NOT_USED, path.name)
            self.assertLessEqual(len(source.splitlines()), 400, path.name)
            self.assertLessEqual(max(map(len, source.splitlines())), 120, path.name)
        for name, node in self.nodes(ast.FunctionDef):
            self.assertLessEqual(node.end_lineno - node.lineno + 1, 40, (name, node.name))

    def test_forms(self):
        for name, node in self.nodes(ast.AST):
            place = (name, getattr(node, "lineno", 0), ast.dump(node)[:60])
            self.assertIsInstance(node, NODES, place)
            self.assertNotIsInstance(node, (ast.Div, ast.MatMult, ast.Pow), place)
            if isinstance(node, (ast.FunctionDef, ast.ClassDef)):
                self.assertEqual(node.decorator_list, [], place)
            if isinstance(node, ast.arguments):
                self.assertFalse(node.vararg or node.kwarg or node.kwonlyargs or node.posonlyargs, place)
            if isinstance(node, (ast.For, ast.While)):
                self.assertEqual(node.orelse, [], place)
            if isinstance(node, ast.Assign):
                self.assertEqual(len(node.targets), 1, place)
            if isinstance(node, ast.Constant):
                self.assertIn(type(node.value), (int, str, bool, type(None)), place)
            if isinstance(node, ast.ListComp):
                self.assertTrue(len(node.generators) == 1 and len(node.generators[0].ifs) <= 1, place)

    def test_tops(self):
        for path, tree in self.trees.items():
            for place, node in enumerate(tree.body):
                if place == 0:
                    self.assertIsInstance(node.value.value, str)
                elif isinstance(node, ast.Assign):
                    for part in ast.walk(node.value):
                        self.assertNotIsInstance(part, (ast.Call, ast.BinOp, ast.Subscript), (path.name, node.lineno))
                else:
                    self.assertIsInstance(node, (ast.ImportFrom, ast.FunctionDef, ast.ClassDef))

    def test_imports(self):
        drawn = {path.stem: set() for path in self.trees}
        for name, node in self.nodes(ast.ImportFrom):
            self.assertRegex(node.module, r"^keyblocks\.[a-z]+$")
            self.assertEqual(node.level, 0)
            source = node.module.split(".")[1]
            drawn[name[:-3]].add(source)
            tops = self.trees[PACKAGE / (source + ".py")].body
            defined = [top.name for top in tops if isinstance(top, (ast.FunctionDef, ast.ClassDef))]
            defined += [top.targets[0].id for top in tops if isinstance(top, ast.Assign)]
            for alias in node.names:
                self.assertIn(alias.name, defined)
        while drawn:
            free = [name for name in drawn if not drawn[name]]
            self.assertTrue(free, "files draw from one another")
            drawn = {name: drawn[name] - set(free) for name in drawn if name not in free}

    def test_names(self):
        for name, node in self.nodes(ast.Name, ast.arg, ast.FunctionDef, ast.ClassDef):
            word = getattr(node, "id", None) or getattr(node, "arg", None) or node.name
            place = (name, node.lineno, word)
            self.assertNotIn(word, NAMES_NOT_USED, place)
            if word not in DOUBLE:
                self.assertRegex(word, r"^[A-Za-z][A-Za-z0-9_]*$", place)
            if isinstance(node, ast.Name) and isinstance(node.ctx, ast.Load):
                self.assertTrue(word in OWN_NAMES or not hasattr(builtins, word), place)
            elif not isinstance(node, ast.FunctionDef):
                self.assertFalse(hasattr(builtins, word), place)

    def test_locals_are_called_otherwise_than_classes_and_imports(self):
        for path, tree in self.trees.items():
            taken = {node.name for node in tree.body if isinstance(node, ast.ClassDef)}
            taken |= {alias.name for node in tree.body if isinstance(node, ast.ImportFrom) for alias in node.names}
            for node in ast.walk(tree):
                if isinstance(node, ast.arg):
                    self.assertNotIn(node.arg, taken, (path.name, node.lineno))
                elif isinstance(node, ast.Name) and isinstance(node.ctx, ast.Store):
                    self.assertNotIn(node.id, taken, (path.name, node.lineno))

    def test_is_stands_beside_none_alone(self):
        for name, node in self.nodes(ast.Compare):
            for operator, right in zip(node.ops, node.comparators):
                if isinstance(operator, (ast.Is, ast.IsNot)):
                    self.assertIsInstance(right, ast.Constant, (name, node.lineno))

    def test_methods_and_values(self):
        methods = {part.name for name, node in self.nodes(ast.ClassDef) for part in node.body
                   if isinstance(part, ast.FunctionDef)} - DOUBLE
        called = {node.func.attr for name, node in self.nodes(ast.Call) if isinstance(node.func, ast.Attribute)}
        self.assertLessEqual(called, METHODS | methods | {"__init__"})
        stored = {node.attr for name, node in self.nodes(ast.Attribute) if isinstance(node.ctx, ast.Store)}
        self.assertFalse(stored & methods)
        self.assertFalse(stored & (VALUES_NOT_USED | NAMES_NOT_USED))
        self.assertFalse((methods | stored) & NAMES_NOT_USED)
