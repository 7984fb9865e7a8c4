"""The package's files keep to the part of Python that it is written in, as far as a reader of trees sees it."""

import ast
import pathlib
import re
import unittest

PACKAGE = pathlib.Path(__file__).resolve().parent.parent / "sparsetables"

NODES = set("""
Module Expr Import ImportFrom alias FunctionDef Lambda arguments arg ClassDef Assign AugAssign If While For Return
Break Continue Pass Raise Try ExceptHandler Call keyword Attribute Subscript Slice Name Load Store Constant List
Tuple Dict Set ListComp comprehension BinOp UnaryOp BoolOp Compare IfExp JoinedStr FormattedValue Add Sub Mult
FloorDiv Mod Pow BitAnd BitOr BitXor LShift RShift Invert UAdd USub Not And Or Eq NotEq Lt LtE Gt GtE Is IsNot In
NotIn
""".split())
BUILT_IN = set("""
len range enumerate zip min max sum abs sorted reversed int str bool list tuple dict set frozenset isinstance ord
repr any all divmod Exception ValueError TypeError KeyError IndexError LookupError ZeroDivisionError ArithmeticError
OverflowError RuntimeError NotImplementedError AttributeError StopIteration
""".split())
METHODS = set("""
append clear copy count endswith extend find get index insert isalnum isalpha isdigit islower isspace isupper items
join keys ljust lower lstrip partition pop remove replace reverse rfind rjust rpartition rsplit rstrip setdefault
split splitlines startswith strip update upper values zfill bit_length
""".split())
NEVER = set("register mro elements open input version_info with_traceback add_note format format_map".split())
WORDS = set("""
type typing typing_extensions enum Enum IntEnum StrEnum Flag IntFlag Generic Protocol ABC ABCMeta namedtuple
NamedTuple TypedDict TYPE_CHECKING abstractmethod
""".split())
PARTS_OF_WORDS = ("dataclass", "overload", "contextmanager")
PYTHONS_OWN = set(dir(__builtins__ if not isinstance(__builtins__, dict) else __import__("builtins")))


def files():
    return sorted(PACKAGE.glob("*.py"))


def tree_of(path):
    return ast.parse(path.read_text())


def nodes(kind):
    return [(path, node) for path in files() for node in ast.walk(tree_of(path)) if isinstance(node, kind)]


def bound_names(tree):
    for node in ast.walk(tree):
        if isinstance(node, ast.Name) and isinstance(node.ctx, ast.Store):
            yield node.id
        elif isinstance(node, ast.arg):
            yield node.arg
        elif isinstance(node, (ast.FunctionDef, ast.ClassDef)):
            yield node.name
        elif isinstance(node, ast.alias):
            yield node.asname or node.name


class Language(unittest.TestCase):
    def test_the_folder(self):
        names = [path.name for path in PACKAGE.iterdir() if path.name != "__pycache__"]
        self.assertIn("__init__.py", names)
        for name in names:
            self.assertRegex(name, r"^([a-z][a-z0-9_]*|__init__|__main__)\.py$")
            self.assertNotIn(name[:-3], PYTHONS_OWN)

    def test_signs_words_and_sizes(self):
        for path in files():
            text = path.read_text()
            self.assertEqual(re.findall(r"[^ -~\n]", text), [], path)
            self.assertEqual(WORDS & set(re.findall(r"\w+", text)), set(), path)
            self.assertEqual([part for part in PARTS_OF_WORDS if part in text], [], path)
            self.assertLessEqual(len(text.splitlines()), 400, path)
            self.assertLessEqual(max(map(len, text.splitlines())), 120, path)
        for path, node in nodes(ast.FunctionDef):
            self.assertLessEqual(node.end_lineno - node.lineno + 1, 40, (path, node.name))

    def test_forms(self):
        for path, node in nodes(ast.AST):
            self.assertIn(node.__class__.__name__, NODES, (path, getattr(node, "lineno", 0)))
        for path, node in nodes(ast.Expr):
            docstring = node.lineno == 1 and isinstance(node.value, ast.Constant)
            self.assertTrue(docstring or isinstance(node.value, ast.Call), (path, node.lineno))
        for path, node in nodes(ast.Assign):
            self.assertEqual(len(node.targets), 1, (path, node.lineno))
        for path, node in nodes(ast.comprehension):
            self.assertLessEqual(len(node.ifs), 1, path)
        for path, node in nodes(ast.ListComp):
            self.assertEqual(len(node.generators), 1, (path, node.lineno))
        for path, node in nodes((ast.For, ast.While)):
            self.assertEqual(node.orelse, [], (path, node.lineno))
        for path, node in nodes((ast.FunctionDef, ast.ClassDef)):
            self.assertEqual(node.decorator_list, [], (path, node.lineno))
        for path, node in nodes(ast.Constant):
            self.assertIn(node.value.__class__, (int, str, bool, None.__class__), (path, node.lineno))

    def test_names(self):
        for path in files():
            bound = list(bound_names(tree_of(path)))
            for name in bound:
                self.assertTrue(name == "__init__" or not name.startswith("_"), (path, name))
                self.assertNotIn(name, PYTHONS_OWN | NEVER, path)
            for node in ast.walk(tree_of(path)):
                if isinstance(node, ast.Name) and node.id not in bound:
                    self.assertIn(node.id, BUILT_IN, (path, node.lineno))

    def test_methods(self):
        own = {node.name for path, holder in nodes(ast.ClassDef) for node in holder.body
               if isinstance(node, ast.FunctionDef)}
        values = {node.attr for path, node in nodes(ast.Attribute) if isinstance(node.ctx, ast.Store)}
        self.assertEqual(own & values, set())
        for path, node in nodes(ast.Attribute):
            self.assertIn(node.attr, own | values | METHODS, (path, node.lineno))
            self.assertNotIn(node.attr, NEVER, (path, node.lineno))

    def test_imports(self):
        self.assertEqual(nodes(ast.Import), [])
        drawn = {path.stem: [] for path in files()}
        for path, node in nodes(ast.ImportFrom):
            self.assertEqual(node.level, 0, path)
            package, name = node.module.split(".")
            self.assertEqual(package, "sparsetables", path)
            defined = list(bound_names(tree_of(PACKAGE / f"{name}.py")))
            imported = [other.name for place, other in nodes(ast.alias) if place == PACKAGE / f"{name}.py"]
            for alias in node.names:
                self.assertIn(alias.name, defined, path)
                self.assertNotIn(alias.name, imported, path)
            drawn[path.stem] += [name, "__init__"]
        while drawn:
            free = [name for name in drawn if not set(drawn[name]) & set(drawn)]
            self.assertNotEqual(free, [], f"files draw from one another: {sorted(drawn)}")
            drawn = {name: drawn[name] for name in drawn if name not in free}

    def test_locals_do_not_hide_what_the_file_draws_or_defines(self):
        for path in files():
            tree = tree_of(path)
            top = {alias.name for node in tree.body if isinstance(node, ast.ImportFrom) for alias in node.names}
            top |= {node.name for node in tree.body if isinstance(node, (ast.ClassDef, ast.FunctionDef))}
            for function in [node for node in ast.walk(tree) if isinstance(node, (ast.FunctionDef, ast.Lambda))]:
                inner = [function.args] + (function.body if isinstance(function, ast.FunctionDef) else [])
                for part in inner:
                    self.assertEqual(top & set(bound_names(part)), set(), path)
