"""The form of the package's files, as far as a look at their text and syntax tells (the rules L1 to L28)."""

import ast
import builtins
import pathlib
import re
import unittest

FOLDER = pathlib.Path(__file__).resolve().parent.parent / "offerhouse"
FILES = sorted(path for path in FOLDER.rglob("*") if path.is_file() and "__pycache__" not in path.parts)

NODES = """
Module Import ImportFrom alias FunctionDef Lambda arguments arg ClassDef Return Assign AugAssign For While If Raise
Try ExceptHandler Expr Pass Break Continue Name Load Store Constant List Tuple Dict Set ListComp comprehension
BinOp Add Sub Mult FloorDiv Mod Pow BitAnd BitOr BitXor LShift RShift UnaryOp USub UAdd Not Invert BoolOp And Or
Compare Eq NotEq Lt LtE Gt GtE Is IsNot In NotIn IfExp Call keyword Attribute Subscript Slice JoinedStr FormattedValue
""".split()
PYTHONS_NAMES = """
len range enumerate zip min max sum abs sorted reversed int str bool list tuple dict set frozenset isinstance ord repr
any all divmod Exception ValueError TypeError KeyError IndexError LookupError ZeroDivisionError ArithmeticError
OverflowError RuntimeError NotImplementedError AttributeError StopIteration
""".split()
PYTHONS_METHODS = """
append clear copy count endswith extend find get index insert isalnum isalpha isdigit islower isspace isupper items
join keys ljust lower lstrip partition pop remove replace reverse rfind rjust rpartition rsplit rstrip setdefault
split splitlines startswith strip update upper values zfill bit_length
""".split()
UNDERSCORED = "__init__ __eq__ __repr__ __str__ __len__".split()
WORDS = """
type typing typing_extensions enum Enum IntEnum StrEnum Flag IntFlag Generic Protocol ABC ABCMeta namedtuple NamedTuple
TypedDict TYPE_CHECKING abstractmethod
""".split()
VALUES_NOT_USED = """
items keys values pop update append clear extend insert remove reverse setdefault sort args encode format
""".split()
PLAIN_NAME = re.compile(r"[A-Za-z][A-Za-z0-9_]*\Z")


def tree_of(path):
    return ast.parse(path.read_text("utf-8"))


def names_bound(tree):
    """Every name that a file binds: defs, classes, parameters, locals, imports."""
    names = []
    for node in ast.walk(tree):
        if isinstance(node, (ast.FunctionDef, ast.ClassDef)):
            names.append(node.name)
        elif isinstance(node, ast.arg):
            names.append(node.arg)
        elif isinstance(node, ast.alias):
            names.append(node.asname or node.name)
        elif isinstance(node, ast.Name) and isinstance(node.ctx, ast.Store):
            names.append(node.id)
    return names


def names_at_top(tree):
    defs = [part.name for part in tree.body if isinstance(part, (ast.FunctionDef, ast.ClassDef))]
    return defs + [part.targets[0].id for part in tree.body if isinstance(part, ast.Assign)]


def module_of(path):
    return "offerhouse." + path.stem


def drawn_from(path):
    return [node.module for node in ast.walk(tree_of(path)) if isinstance(node, ast.ImportFrom)]


class Language(unittest.TestCase):
    def test_files(self):
        self.assertIn(FOLDER / "__init__.py", FILES)
        for path in FILES:
            self.assertRegex(path.relative_to(FOLDER).as_posix(), r"\A([a-z][a-z0-9_]*|__init__|__main__)\.py\Z")

    def test_signs_and_size(self):
        for path in FILES:
            text = path.read_bytes().decode("ascii")
            self.assertRegex(text, r"\A[ -~\n]*\Z", path)
            rows = text.split("\n")
            self.assertLessEqual(len(rows), 401, path)
            self.assertLessEqual(max(len(row) for row in rows), 120, path)
            for node in ast.walk(tree_of(path)):
                if isinstance(node, ast.FunctionDef):
                    self.assertLessEqual(node.end_lineno - node.lineno + 1, 40, (path, node.name))

    def test_words_that_stand_nowhere(self):
        for path in FILES:
            text = path.read_text("utf-8")
            self.assertEqual([word for word in WORDS if re.search(rf"\b{word}\b", text)], [], path)
            self.assertNotRegex(text, "dataclass|overload|contextmanager", path)

    def test_syntax(self):
        for path in FILES:
            for node in ast.walk(tree_of(path)):
                where = (path.name, getattr(node, "lineno", None))
                self.assertIn(type(node).__name__, NODES, where)
                self.check_node(node, where)

    def check_node(self, node, where):
        if isinstance(node, ast.FunctionDef):
            parts = node.args
            self.assertFalse(node.decorator_list or parts.vararg or parts.kwarg or parts.kwonlyargs, where)
            self.assertFalse(parts.posonlyargs, where)
        if isinstance(node, ast.ClassDef):
            self.assertFalse(node.decorator_list or node.keywords or len(node.bases) > 1, where)
            self.assertTrue(all(isinstance(part, (ast.FunctionDef, ast.Pass)) for part in node.body), where)
        if isinstance(node, ast.Assign):
            self.assertEqual(len(node.targets), 1, where)
        if isinstance(node, (ast.For, ast.While)):
            self.assertFalse(node.orelse, where)
        if isinstance(node, ast.Try):
            self.assertFalse(node.finalbody, where)
        if isinstance(node, ast.Expr):
            text = isinstance(node.value, ast.Constant) and node.lineno == 1
            self.assertTrue(text or isinstance(node.value, ast.Call), where)
        if isinstance(node, ast.FormattedValue):
            self.assertTrue(isinstance(node.value, ast.Name) and node.format_spec is None, where)
        if isinstance(node, ast.BinOp) and isinstance(node.op, ast.Pow):
            self.assertTrue(isinstance(node.right, ast.Constant) and node.right.value <= 64, where)
        if isinstance(node, ast.ListComp):
            self.assertTrue(len(node.generators) == 1 and len(node.generators[0].ifs) <= 1, where)
        if isinstance(node, ast.Constant):
            self.assertTrue(node.value is None or isinstance(node.value, (int, str)), where)
            self.assertNotIn("%", node.value if isinstance(node.value, str) else "", where)
        if isinstance(node, ast.Compare) and any(isinstance(op, (ast.Is, ast.IsNot)) for op in node.ops):
            sides = [node.left] + node.comparators
            beside = [side.value for side in sides if isinstance(side, ast.Constant)]
            self.assertTrue(any(value in (None, True, False) for value in beside), where)

    def test_the_top_of_a_module(self):
        kinds = (ast.ImportFrom, ast.FunctionDef, ast.ClassDef, ast.Assign)
        for path in FILES:
            tree = tree_of(path)
            self.assertIsNotNone(ast.get_docstring(tree), path)
            self.assertTrue(all(isinstance(part, kinds) for part in tree.body[1:]), path)
            tops = names_at_top(tree)
            self.assertEqual(len(tops), len(set(tops)), path)

    def test_names(self):
        for path in FILES:
            tree = tree_of(path)
            bound = names_bound(tree)
            for name in bound:
                self.assertTrue(PLAIN_NAME.match(name) or name in UNDERSCORED, (path, name))
            python = dir(builtins)
            free = [part.name for part in ast.walk(tree) if isinstance(part, ast.FunctionDef)]
            self.assertEqual([name for name in bound if name in python and name not in free], [], path)
            for node in ast.walk(tree):
                if isinstance(node, ast.Name) and node.id not in bound:
                    self.assertIn(node.id, PYTHONS_NAMES, (path, node.lineno))

    def test_no_local_is_called_like_a_class_or_an_import(self):
        for path in FILES:
            tree = tree_of(path)
            taken = [alias.name for alias in ast.walk(tree) if isinstance(alias, ast.alias)]
            taken += [node.name for node in tree.body if isinstance(node, ast.ClassDef)]
            names = [node for node in ast.walk(tree) if isinstance(node, ast.Name)]
            stored = [node.id for node in names if isinstance(node.ctx, ast.Store)]
            stored += [node.arg for node in ast.walk(tree) if isinstance(node, ast.arg)]
            self.assertEqual([name for name in stored if name in taken], [], path)

    def test_no_name_is_a_method_and_a_value(self):
        nodes = [node for path in FILES for node in ast.walk(tree_of(path))]
        classes = [node for node in nodes if isinstance(node, ast.ClassDef)]
        methods = {part.name for node in classes for part in node.body if isinstance(part, ast.FunctionDef)}
        stored = {node.attr for node in nodes if isinstance(node, ast.Attribute) and isinstance(node.ctx, ast.Store)}
        self.assertEqual(sorted(methods & stored), [])
        self.assertEqual(sorted(name for name in stored if name in VALUES_NOT_USED), [])
        for node in classes:
            own = [part.name for part in node.body if isinstance(part, ast.FunctionDef)]
            self.assertEqual(len(own), len(set(own)), node.name)

    def test_sets_are_not_kept(self):
        for path in FILES:
            nodes = list(ast.walk(tree_of(path)))
            calls = [node for node in nodes if isinstance(node, ast.Call) and isinstance(node.func, ast.Name)]
            places = [part for node in calls if node.func.id in ("sorted", "len") for part in node.args]
            places += [part for node in nodes if isinstance(node, ast.Compare) for part in node.comparators]
            sets = [node for node in calls if node.func.id == "set"]
            self.assertEqual([node.lineno for node in sets if node not in places], [], path)

    def test_methods(self):
        trees = [tree_of(path) for path in FILES]
        own = {node.name for tree in trees for node in ast.walk(tree) if isinstance(node, ast.FunctionDef)}
        for path, tree in zip(FILES, trees):
            for node in ast.walk(tree):
                if isinstance(node, ast.Call) and isinstance(node.func, ast.Attribute):
                    name = node.func.attr
                    self.assertTrue(name in PYTHONS_METHODS or name in own, (path, node.lineno))

    def test_imports(self):
        modules = {module_of(path): path for path in FILES if path.stem != "__init__"}
        for path in FILES:
            for node in ast.walk(tree_of(path)):
                if not isinstance(node, ast.ImportFrom):
                    continue
                self.assertEqual(node.level, 0, path)
                self.assertIn(node.module, modules, path)
                defined = names_at_top(tree_of(modules[node.module]))
                for alias in node.names:
                    self.assertIn(alias.name, defined, path)

    def test_no_two_files_draw_from_one_another(self):
        left = {module_of(path): drawn_from(path) for path in FILES}
        while left:
            ready = [name for name, needed in left.items() if not any(other in left for other in needed)]
            self.assertTrue(ready, left)
            left = {name: needed for name, needed in left.items() if name not in ready}
