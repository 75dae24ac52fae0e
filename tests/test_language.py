"""The package keeps to its small part of Python: the rules of LANGUAGE.md that a reader of its files can check."""

import ast
import builtins
import re
import unittest
from pathlib import Path

PACKAGE = Path(__file__).resolve().parent.parent / "faultfinder"

# L6, L7: what may stand in a file; imports are out, for circuit.py imports nothing.
NODES = (
    "Module FunctionDef ClassDef arguments arg Assign AugAssign If While For Return Break Continue Pass Raise Expr "
    "Constant List Tuple Dict Name Attribute Subscript Slice Call keyword ListComp comprehension IfExp BinOp UnaryOp "
    "BoolOp Compare Load Store Add Sub Mult FloorDiv Mod BitAnd BitOr BitXor LShift RShift Invert Not USub And Or "
    "Eq NotEq Lt LtE Gt GtE In NotIn Is IsNot"
).split()

# L8, as far as no error is raised or taken yet.
BUILT_IN = (
    "len range enumerate zip min max sum abs sorted reversed int str bool list tuple dict set isinstance any all divmod"
).split()

# L25.
METHODS = (
    "append clear copy count endswith extend find get index insert isalnum isalpha isdigit islower isspace isupper items "
    "join keys ljust lower lstrip partition pop remove replace reverse rfind rjust rpartition rsplit rstrip setdefault "
    "split splitlines startswith strip update upper values zfill bit_length"
).split()

# L17.
UNUSED_WORDS = (
    "type typing typing_extensions enum Enum IntEnum StrEnum Flag IntFlag Generic Protocol ABC ABCMeta namedtuple "
    "NamedTuple TypedDict TYPE_CHECKING abstractmethod"
).split()
UNUSED_NAMES = "register mro elements open input version_info with_traceback add_note format format_map".split()


def files():
    return sorted(path for path in PACKAGE.rglob("*") if path.is_file() and "__pycache__" not in path.parts)


def trees():
    return [(path.name, ast.parse(path.read_text(encoding="utf-8"))) for path in files()]


def nodes_of(*kinds):
    return [(name, node) for name, tree in trees() for node in ast.walk(tree) if isinstance(node, kinds)]


def bound_names():
    """Every name that the package's files bind, with where it is bound."""
    bound = [(name, node.id) for name, node in nodes_of(ast.Name) if isinstance(node.ctx, ast.Store)]
    bound += [(name, node.attr) for name, node in nodes_of(ast.Attribute) if isinstance(node.ctx, ast.Store)]
    bound += [(name, node.arg) for name, node in nodes_of(ast.arg)]
    bound += [(name, node.name) for name, node in nodes_of(ast.FunctionDef, ast.ClassDef)]
    return bound


def methods():
    return [inner.name for name, node in nodes_of(ast.ClassDef) for inner in node.body
            if isinstance(inner, ast.FunctionDef)]


class Files(unittest.TestCase):
    def test_names_of_files(self):
        self.assertEqual([path.relative_to(PACKAGE).as_posix() for path in files()], ["__init__.py", "circuit.py"])

    def test_sizes_and_signs(self):
        for path in files():
            text = path.read_text(encoding="utf-8")
            self.assertIsNone(re.search(r"[^ -~\n]", text), path)
            self.assertLessEqual(len(text.splitlines()), 400, path)
            self.assertLessEqual(max(map(len, text.splitlines())), 120, path)

    def test_size_of_functions(self):
        for name, node in nodes_of(ast.FunctionDef):
            self.assertLessEqual(node.end_lineno - node.lineno + 1, 40, (name, node.name))

    def test_unused_words(self):
        for path in files():
            words = re.findall(r"\w+", path.read_text(encoding="utf-8"))
            self.assertEqual(sorted(set(words) & set(UNUSED_WORDS)), [], path)
            self.assertEqual([word for word in words if re.search("dataclass|overload|contextmanager", word)], [], path)


class Forms(unittest.TestCase):
    def test_what_stands_in_a_file(self):
        for name, node in nodes_of(ast.AST):
            self.assertIn(node.__class__.__name__, NODES, (name, getattr(node, "lineno", None)))

    def test_no_decorators_stars_or_annotations(self):
        for name, node in nodes_of(ast.FunctionDef):
            given = node.args
            self.assertFalse(node.decorator_list or given.vararg or given.kwarg or given.kwonlyargs or given.posonlyargs)
            self.assertFalse(node.returns or any(one.annotation for one in given.args), node.name)

    def test_one_target_and_one_for(self):
        for name, node in nodes_of(ast.Assign):
            self.assertEqual(len(node.targets), 1)
            self.assertNotIsInstance(node.targets[0], (ast.Tuple, ast.List))
        for name, node in nodes_of(ast.ListComp):
            self.assertEqual(len(node.generators), 1)
            self.assertLessEqual(len(node.generators[0].ifs), 1)
        for name, node in nodes_of(ast.For, ast.While):
            self.assertEqual(node.orelse, [])

    def test_plain_constants(self):
        for name, node in nodes_of(ast.Constant):
            self.assertIn(node.value.__class__, (int, str, bool, None.__class__))

    def test_top_of_a_file_gives_each_name_once(self):
        for name, tree in trees():
            top = [node.targets[0].id for node in tree.body if isinstance(node, ast.Assign)]
            top += [node.name for node in tree.body if isinstance(node, (ast.FunctionDef, ast.ClassDef))]
            self.assertEqual(len(top), len(set(top)), name)


class Names(unittest.TestCase):
    def test_plain_names(self):
        for name, bound in bound_names():
            self.assertRegex(bound, r"^([A-Za-z][A-Za-z0-9_]*|__init__)$", name)
            self.assertNotIn(bound, UNUSED_NAMES, name)

    def test_no_name_of_pythons_own_is_bound(self):
        for name, bound in bound_names():
            self.assertFalse(hasattr(builtins, bound) and bound not in methods(), (name, bound))

    def test_built_in_names_that_are_used(self):
        for name, node in nodes_of(ast.Name):
            if hasattr(builtins, node.id):
                self.assertIn(node.id, BUILT_IN, (name, node.lineno))

    def test_methods_that_are_called(self):
        for name, node in nodes_of(ast.Call):
            if isinstance(node.func, ast.Attribute):
                self.assertIn(node.func.attr, METHODS + methods(), (name, node.lineno))

    def test_no_name_is_a_method_and_a_value(self):
        values = [node.attr for name, node in nodes_of(ast.Attribute) if isinstance(node.ctx, ast.Store)]
        self.assertEqual(sorted(set(values) & set(methods())), [])

    def test_names_that_pythons_own_values_have(self):
        own = {name for kind in (str, int, list, dict, set, bytes) for name in dir(kind) if not name.startswith("__")}
        values = [node.attr for name, node in nodes_of(ast.Attribute) if isinstance(node.ctx, ast.Store)]
        self.assertEqual(sorted(own & set(methods() + values)), [])
