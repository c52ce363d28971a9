"""The package's files against those rules of LANGUAGE.md that a walk over the syntax can see."""

import ast
import builtins
import re
import unittest
from pathlib import Path

PACKAGE = Path(__file__).resolve().parent.parent / "wareplan"

NODES = set("""
Module Expr Constant ImportFrom alias FunctionDef arguments arg Return Lambda ClassDef Pass
Assign AugAssign Name Store Load If While For Break Continue Raise Try ExceptHandler
BoolOp And Or BinOp UnaryOp Not USub UAdd Invert IfExp Compare Call keyword Attribute Subscript Slice
Add Sub Mult FloorDiv Mod Pow LShift RShift BitOr BitXor BitAnd
Eq NotEq Lt LtE Gt GtE Is IsNot In NotIn
List Tuple Dict Set ListComp comprehension JoinedStr FormattedValue
""".split())

OWN_NAMES = set("""
len range enumerate zip min max sum abs sorted reversed int str bool list tuple dict set frozenset
isinstance ord repr any all divmod
Exception ValueError TypeError KeyError IndexError LookupError ZeroDivisionError ArithmeticError
OverflowError RuntimeError NotImplementedError AttributeError StopIteration
""".split())

METHODS = set("""
append clear copy count endswith extend find get index insert isalnum isalpha isdigit islower isspace
isupper items join keys ljust lower lstrip partition pop remove replace reverse rfind rjust rpartition
rsplit rstrip setdefault split splitlines startswith strip update upper values zfill bit_length
""".split())

WORDS = set("""
type typing typing_extensions enum Enum IntEnum StrEnum Flag IntFlag Generic Protocol ABC ABCMeta
namedtuple NamedTuple TypedDict TYPE_CHECKING abstractmethod
""".split())

WALKED = ("zip", "enumerate", "reversed", "range", "items", "keys", "values")
TAKERS = ("list", "tuple", "dict", "sorted", "sum", "any", "all", "enumerate", "zip", "min", "max")
PYTHON_S_OWN = {name for value in ("", 0, [], (), {}, set(), b"") for name in dir(value)}

WORD_PARTS = ("dataclass", "overload", "contextmanager")
DUNDERS = ("__init__", "__eq__", "__repr__", "__str__", "__len__")


def package_files():
    return sorted(path for path in PACKAGE.rglob("*") if "__pycache__" not in path.parts)


def bound_names(tree):
    names = []
    for node in ast.walk(tree):
        if isinstance(node, (ast.FunctionDef, ast.ClassDef)):
            names.append(node.name)
        elif isinstance(node, ast.arg):
            names.append(node.arg)
        elif isinstance(node, ast.Name) and isinstance(node.ctx, ast.Store):
            names.append(node.id)
        elif isinstance(node, ast.ExceptHandler) and node.name is not None:
            names.append(node.name)
    return names


def drawn_from(tree):
    return [node.module for node in tree.body if isinstance(node, ast.ImportFrom)]


class Language(unittest.TestCase):
    def setUp(self):
        self.sources = {path: path.read_text(encoding="ascii") for path in package_files()}
        self.trees = {path: ast.parse(source) for path, source in self.sources.items()}

    def nodes(self, kind):
        for path, tree in self.trees.items():
            for node in ast.walk(tree):
                if isinstance(node, kind):
                    yield f"{path.name}:{getattr(node, 'lineno', 0)}", node

    def test_files(self):
        names = [path.name for path in self.sources]
        self.assertIn("__init__.py", names)
        for path in self.sources:
            self.assertEqual(path.parent, PACKAGE)
            self.assertRegex(path.name, "^([a-z][a-z0-9_]*|__init__|__main__)[.]py$")
            self.assertFalse(path.name.startswith("test"), path.name)

    def test_signs_and_sizes(self):
        for path, source in self.sources.items():
            self.assertIsNone(re.search("[^ -~\n]", source), path.name)
            lines = source.split("\n")
            self.assertLessEqual(len(lines), 400, path.name)
            self.assertLessEqual(max(len(line) for line in lines), 120, path.name)
        for place, node in self.nodes(ast.FunctionDef):
            self.assertLessEqual(node.end_lineno - node.lineno + 1, 40, place)

    def test_words(self):
        for path, source in self.sources.items():
            self.assertEqual(WORDS & set(re.findall("[A-Za-z0-9_]+", source)), set(), path.name)
            for part in WORD_PARTS:
                self.assertNotIn(part, source, path.name)

    def test_only_listed_syntax(self):
        for place, node in self.nodes(ast.AST):
            self.assertIn(node.__class__.__name__, NODES, place)
        for place, node in self.nodes(ast.Constant):
            self.assertIn(node.value.__class__, (int, str, bool, None.__class__), place)
            if isinstance(node.value, str):
                self.assertNotIn("%", node.value, place)
        for place, node in self.nodes((ast.For, ast.While)):
            self.assertEqual(node.orelse, [], place)
        for place, node in self.nodes(ast.Try):
            self.assertEqual(node.finalbody, [], place)
        for place, node in self.nodes(ast.Assign):
            self.assertEqual(len(node.targets), 1, place)

    def test_a_text_stands_by_itself_at_a_file_s_head_alone(self):
        for path, tree in self.trees.items():
            heads = [node for node in tree.body if isinstance(node, ast.Expr)]
            self.assertEqual(heads, tree.body[:1], path.name)
            for node in ast.walk(tree):
                if isinstance(node, ast.Expr) and node not in heads:
                    self.assertIsInstance(node.value, ast.Call, f"{path.name}:{node.lineno}")

    def test_defs_and_classes(self):
        for place, node in self.nodes((ast.FunctionDef, ast.ClassDef)):
            self.assertEqual(node.decorator_list, [], place)
        for place, node in self.nodes(ast.arguments):
            self.assertEqual((node.vararg, node.kwarg, node.kwonlyargs, node.posonlyargs), (None, None, [], []), place)
        for place, node in self.nodes(ast.ClassDef):
            self.assertLessEqual(len(node.bases), 1, place)
            for part in node.body:
                self.assertIsInstance(part, (ast.FunctionDef, ast.Pass), place)

    def test_names(self):
        own = set(dir(builtins))
        for path, tree in self.trees.items():
            bound = bound_names(tree)
            drawn = [name.name for node in tree.body if isinstance(node, ast.ImportFrom) for name in node.names]
            self.assertEqual(set(bound) & set(drawn), set(), path.name)
            for name in bound:
                self.assertNotIn(name, own, path.name)
                if name not in DUNDERS:
                    self.assertRegex(name, "^[A-Za-z]", path.name)
            for node in ast.walk(tree):
                if isinstance(node, ast.Name) and node.id in own:
                    self.assertIn(node.id, OWN_NAMES, f"{path.name}:{node.lineno}")

    def test_methods_and_values(self):
        values = set()
        for place, node in self.nodes(ast.ClassDef):
            for part in ast.walk(node):
                if isinstance(part, ast.Attribute) and isinstance(part.ctx, ast.Store):
                    self.assertEqual(part.value.id, "self", place)
                    self.assertNotIn(part.attr, PYTHON_S_OWN, place)
                    values.add(part.attr)
        called = [node.func for place, node in self.nodes(ast.Call)]
        for place, node in self.nodes(ast.Attribute):
            if node.attr not in values:
                self.assertIn(node.attr, METHODS, place)
                self.assertIn(node, called, place)

    def test_walked_on_the_spot(self):
        walked = []
        for place, node in self.nodes((ast.For, ast.comprehension)):
            walked.append(node.iter)
        for place, node in self.nodes(ast.Call):
            if isinstance(node.func, ast.Name) and node.func.id in TAKERS:
                walked.extend(node.args[:1])
        for place, node in self.nodes(ast.Call):
            name = node.func.attr if isinstance(node.func, ast.Attribute) else node.func.id
            if name in WALKED:
                self.assertIn(node, walked, place)

    def test_comprehensions_and_lambdas(self):
        for place, node in self.nodes(ast.ListComp):
            self.assertEqual(len(node.generators), 1, place)
            self.assertLessEqual(len(node.generators[0].ifs), 1, place)
        lines = [place for place, node in self.nodes(ast.Lambda)]
        self.assertEqual(len(lines), len(set(lines)))

    def test_is_stands_beside_none_true_and_false_alone(self):
        for place, node in self.nodes(ast.Compare):
            for sign, value in zip(node.ops, node.comparators):
                if isinstance(sign, (ast.Is, ast.IsNot)):
                    self.assertIsInstance(value, ast.Constant, place)
                    self.assertIn(value.value, (None, True, False), place)

    def test_imports_stand_at_the_top_and_name_the_package_s_own_files(self):
        for path, tree in self.trees.items():
            at_top = [node for node in tree.body if isinstance(node, ast.ImportFrom)]
            everywhere = [node for node in ast.walk(tree) if isinstance(node, ast.ImportFrom)]
            self.assertEqual(at_top, everywhere, path.name)
            for node in at_top:
                self.assertEqual(node.level, 0, path.name)
                self.assertRegex(node.module, "^wareplan[.][a-z_]+$", path.name)
                there = self.trees[PACKAGE / (node.module.partition(".")[2] + ".py")]
                for name in node.names:
                    self.assertIn(name.name, bound_names(there), path.name)

    def test_no_two_files_draw_from_one_another(self):
        left = {"wareplan." + path.stem: drawn_from(tree) for path, tree in self.trees.items()}
        while left:
            free = [name for name, drawn in left.items() if not any(other in left for other in drawn)]
            self.assertNotEqual(free, [], sorted(left))
            for name in free:
                left.pop(name)


if __name__ == "__main__":
    unittest.main()
