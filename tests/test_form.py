"""The rules of the language that a program can look after, for each file of the package."""

import ast
import builtins
import re
import unittest
from pathlib import Path

PACKAGE = Path(__file__).resolve().parent.parent / "roomhouse"

NODES = set("""
Module Expr Constant Assign AugAssign If While For Return Break Continue Pass Raise Try ExceptHandler Call
ImportFrom alias FunctionDef arguments arg ClassDef Name Attribute Subscript Slice List Tuple Dict ListComp
comprehension BinOp UnaryOp BoolOp Compare IfExp Load Store JoinedStr FormattedValue Lambda keyword
Add Sub Mult FloorDiv Mod Pow BitAnd BitOr BitXor LShift RShift Invert USub UAdd Not And Or
Eq NotEq Lt LtE Gt GtE In NotIn Is IsNot
""".split())
TOP = (ast.Expr, ast.ImportFrom, ast.FunctionDef, ast.ClassDef, ast.Assign)
PLAIN = (ast.Constant, ast.Tuple, ast.List, ast.Dict, ast.UnaryOp, ast.USub, ast.Load)
PYTHONS = set("""
len range enumerate zip min max sum abs sorted reversed int str bool list tuple dict set frozenset isinstance ord repr
any all divmod Exception ValueError TypeError KeyError IndexError LookupError ZeroDivisionError ArithmeticError
OverflowError RuntimeError NotImplementedError AttributeError StopIteration
""".split())
METHODS = set("""
append clear copy count endswith extend find get index insert isalnum isalpha isdigit islower isspace isupper items join
keys ljust lower lstrip partition pop remove replace reverse rfind rjust rpartition rsplit rstrip setdefault split
splitlines startswith strip update upper values zfill bit_length
""".split())
PYTHONS_OWN = {name for kind in (str, int, list, dict, set, bytes, tuple) for name in dir(kind)}
NOT_METHODS = PYTHONS_OWN - METHODS - {"add", "discard"}
NOT_VALUES = PYTHONS_OWN - set("count index title find get join lower upper split strip copy add".split()) | {"args"}
BARRED = set("""
register mro elements open input version_info with_traceback add_note attrgetter breakpoint compile dir eval exec exit
getattr setattr hasattr delattr globals locals help id license credits copyright quit super type vars os sys gc
""".split())
WORDS = re.compile(
    r"\b(type|typing|typing_extensions|enum|Enum|IntEnum|StrEnum|Flag|IntFlag|Generic|Protocol|ABC|ABCMeta|namedtuple"
    r"|NamedTuple|TypedDict|TYPE_CHECKING|abstractmethod)\b|dataclass|overload|contextmanager"
)
UNDERSCORED = ("__init__", "__eq__", "__repr__", "__str__", "__len__")


def files():
    return sorted(path for path in PACKAGE.iterdir() if path.name != "__pycache__")


def tree_of(path):
    return ast.parse(path.read_text(encoding="utf-8"))


def nodes(tree, *kinds):
    return [node for node in ast.walk(tree) if isinstance(node, kinds)]


def drawn(tree):
    return [node.module for node in nodes(tree, ast.ImportFrom)]


def methods_of(tree):
    return [d.name for c in nodes(tree, ast.ClassDef) for d in c.body if isinstance(d, ast.FunctionDef)]


def values_of(tree):
    return [n.attr for n in nodes(tree, ast.Attribute) if isinstance(n.ctx, ast.Store)]


def bound_names(tree):
    names = [n.id for n in nodes(tree, ast.Name) if isinstance(n.ctx, ast.Store)]
    names += [n.arg for n in nodes(tree, ast.arg)] + [n.name for n in nodes(tree, ast.FunctionDef, ast.ClassDef)]
    return names + [n.asname or n.name for n in nodes(tree, ast.alias)]


class FormTest(unittest.TestCase):
    def each(self):
        return [(path, path.read_text(encoding="utf-8"), tree_of(path)) for path in files()]

    def test_files(self):
        self.assertIn("__init__.py", [path.name for path in files()])
        for path, text, tree in self.each():
            self.assertRegex(path.name, r"^([a-z][a-z0-9_]*|__init__|__main__)\.py$")
            self.assertNotIn(path.stem, dir(builtins))
            self.assertNotRegex(path.stem, r"^(test.*|site|conftest|sitecustomize|usercustomize)$")
            self.assertEqual(set(re.findall(r"[^ -~\n]", text)), set())

    def test_sizes(self):
        for path, text, tree in self.each():
            self.assertLessEqual(len(text.splitlines()), 400)
            self.assertLessEqual(max(len(line) for line in text.splitlines()), 120)
            for node in nodes(tree, ast.FunctionDef):
                self.assertLessEqual(node.end_lineno - node.lineno + 1, 40, node.name)

    def test_statements_and_expressions(self):
        for path, text, tree in self.each():
            self.assertEqual({type(node).__name__ for node in ast.walk(tree)} - NODES, set())
            for node in nodes(tree, ast.Assign):
                self.assertEqual([len(node.targets), isinstance(node.targets[0], ast.Tuple)], [1, False])
            for node in nodes(tree, ast.For, ast.While, ast.Try):
                self.assertFalse(getattr(node, "finalbody", []) or (node.orelse and not isinstance(node, ast.Try)))
            for node in nodes(tree, ast.Constant):
                self.assertIn(type(node.value), (int, str, bool, type(None)))
            for node in nodes(tree, ast.ListComp):
                self.assertLessEqual(len(node.generators) + len(node.generators[0].ifs), 2)
            for node in nodes(tree, ast.BinOp):
                if isinstance(node.op, ast.Pow):
                    self.assertIsInstance(node.right, ast.Constant)
            for node in nodes(tree, ast.Compare):
                for sign, right in zip(node.ops, node.comparators):
                    if isinstance(sign, (ast.Is, ast.IsNot)):
                        self.assertIn(ast.unparse(right), ("None", "True", "False"))

    def test_the_top(self):
        for path, text, tree in self.each():
            for node in tree.body:
                self.assertIsInstance(node, TOP)
                if isinstance(node, ast.Assign):
                    for part in ast.walk(node.value):
                        self.assertIsInstance(part, PLAIN)
            for node in nodes(tree, ast.ImportFrom):
                self.assertRegex(node.module, r"^roomhouse\.[a-z]+$")
                self.assertIn(node, tree.body)
                self.assertEqual([alias.asname for alias in node.names], [None] * len(node.names))
                there = tree_of(PACKAGE / (node.module.split(".")[1] + ".py")).body
                here = {name for part in there if not isinstance(part, ast.ImportFrom) for name in bound_names(part)}
                self.assertLessEqual({alias.name for alias in node.names}, here)

    def test_no_two_files_draw_from_one_another(self):
        left = {"roomhouse." + path.stem: drawn(tree_of(path)) for path in files()}
        while left:
            loose = [name for name, others in left.items() if not set(others) & set(left)]
            self.assertNotEqual(loose, [])
            left = {name: others for name, others in left.items() if name not in loose}

    def test_functions_and_classes(self):
        for path, text, tree in self.each():
            for node in nodes(tree, ast.FunctionDef):
                self.assertEqual([node.decorator_list, node.returns], [[], None])
                own = node.args
                self.assertEqual([own.vararg, own.kwarg, own.kwonlyargs, own.posonlyargs], [None, None, [], []])
                self.assertEqual([a.annotation for a in own.args], [None] * len(own.args))
            for node in nodes(tree, ast.ClassDef):
                self.assertIn(node, tree.body)
                self.assertLessEqual(len(node.bases) + len(node.keywords), 1)
                self.assertEqual(node.decorator_list, [])
                names = [part.name for part in node.body if isinstance(part, ast.FunctionDef)]
                self.assertEqual(len(names), len(set(names)))
                for part in node.body:
                    self.assertIsInstance(part, (ast.FunctionDef, ast.Expr, ast.Pass))

    def test_names(self):
        for path, text, tree in self.each():
            bound = set(bound_names(tree))
            for name in bound | set(values_of(tree)):
                self.assertTrue(re.match(r"^[A-Za-z][A-Za-z0-9_]*$", name) or name in UNDERSCORED, name)
            inner = bound - set(methods_of(tree))
            self.assertEqual(inner & set(dir(builtins)), set())
            self.assertEqual((bound | set(values_of(tree))) & BARRED, set())
            read = {n.id for n in nodes(tree, ast.Name)} - bound
            self.assertLessEqual(read, PYTHONS)
            top = {node.name for node in nodes(tree, ast.ClassDef)} | {node.name for node in nodes(tree, ast.alias)}
            for node in nodes(tree, ast.FunctionDef):
                self.assertEqual(top & set(bound_names(node)), set(), path.name)
            self.assertIsNone(WORDS.search(text))

    def test_methods_and_values(self):
        trees = [tree_of(path) for path in files()]
        methods = {name for tree in trees for name in methods_of(tree)} - set(UNDERSCORED)
        values = {name for tree in trees for name in values_of(tree)}
        self.assertEqual(methods & values, set())
        self.assertEqual(methods & NOT_METHODS, set())
        self.assertEqual(values & NOT_VALUES, set())
        for tree in trees:
            called = {n.func.attr for n in nodes(tree, ast.Call) if isinstance(n.func, ast.Attribute)}
            self.assertLessEqual(called - methods - METHODS, {"__init__"})

    def test_texts_have_no_sign_of_L27(self):
        for path, text, tree in self.each():
            for node in nodes(tree, ast.Constant):
                if isinstance(node.value, str):
                    self.assertNotIn("%", node.value)


if __name__ == "__main__":
    unittest.main()
