"""The package keeps to its part of Python, and prints, reads and imports nothing."""

import ast
import builtins
import re
import subprocess
import sys
import unittest
from pathlib import Path

ROOT = Path(__file__).resolve().parent.parent
PACKAGE = ROOT / "pointbodies"

NODES = """Module Expr Constant ImportFrom alias FunctionDef arguments arg Lambda Assign AugAssign If While For Return
Break Continue Pass Name Load Store List Tuple Dict BinOp UnaryOp BoolOp Compare IfExp Call keyword Attribute
Subscript Slice ListComp comprehension Add Sub Mult FloorDiv Mod Pow And Or Not USub Eq NotEq Lt LtE Gt GtE In NotIn
Is IsNot""".split()

OWN_NAMES = """len range enumerate zip min max sum abs sorted reversed int str bool list tuple dict isinstance
any all divmod""".split()

METHODS = """append clear copy count extend get index insert items keys pop remove reverse setdefault update values
bit_length""".split()

WORDS = """type typing typing_extensions enum Enum IntEnum StrEnum Flag IntFlag Generic Protocol ABC ABCMeta namedtuple
NamedTuple TypedDict TYPE_CHECKING abstractmethod""".split()

WALKED = ("zip", "enumerate", "reversed", "range")


def files():
    return sorted(path for path in PACKAGE.rglob("*.py"))


def trees():
    return [(path, ast.parse(path.read_text(encoding="ascii"))) for path in files()]


def nodes():
    for path, tree in trees():
        for node in ast.walk(tree):
            yield f"{path.name}:{getattr(node, 'lineno', 0)}", node


class Language(unittest.TestCase):
    def test_only_files_of_python_lie_in_the_package(self):
        for path in PACKAGE.rglob("*"):
            if "__pycache__" not in path.parts:
                self.assertRegex(path.name, r"^[a-z0-9_]+\.py$")
        self.assertTrue((PACKAGE / "__init__.py").is_file())

    def test_signs_words_and_sizes(self):
        for path in files():
            text = path.read_bytes().decode("ascii")
            self.assertRegex(text, r"\A[\n -~]*\Z", path)
            self.assertLessEqual(len(text.splitlines()), 400, path)
            self.assertLessEqual(max(map(len, text.splitlines())), 120, path)
            for word in WORDS:
                self.assertIsNone(re.search(rf"\b{word}\b", text), (path, word))

    def test_size_of_functions(self):
        for at, node in nodes():
            if isinstance(node, ast.FunctionDef):
                self.assertLessEqual(node.end_lineno - node.lineno + 1, 40, at)
                self.assertEqual(node.decorator_list, [], at)
                self.assertIsNone(node.args.vararg or node.args.kwarg, at)
                self.assertEqual(node.args.kwonlyargs + node.args.posonlyargs, [], at)

    def test_kinds_of_steps(self):
        for at, node in nodes():
            self.assertIn(ast.dump(node).partition("(")[0], NODES, at)
            if isinstance(node, ast.Constant):
                self.assertIn(node.value.__class__, (int, str, bool, type(None)), at)
            if isinstance(node, ast.ListComp):
                self.assertEqual(len(node.generators), 1, at)
                self.assertLessEqual(len(node.generators[0].ifs), 1, at)
            if isinstance(node, ast.Assign):
                self.assertEqual(len(node.targets), 1, at)
                self.assertNotIsInstance(node.targets[0], ast.Tuple, at)
            if isinstance(node, (ast.For, ast.While)):
                self.assertEqual(node.orelse, [], at)

    def test_names(self):
        for at, node in nodes():
            bound = [node.name] if isinstance(node, ast.FunctionDef) else []
            bound += [node.arg] if isinstance(node, ast.arg) else []
            if isinstance(node, ast.Name):
                if isinstance(node.ctx, ast.Store):
                    bound.append(node.id)
                elif hasattr(builtins, node.id):
                    self.assertIn(node.id, OWN_NAMES, at)
            for name in bound:
                self.assertFalse(hasattr(builtins, name), (at, name))
                self.assertFalse(name.startswith("_"), (at, name))

    def test_methods(self):
        for at, node in nodes():
            if isinstance(node, ast.Attribute):
                self.assertIn(node.attr, METHODS, at)

    def test_imports_are_the_packages_own(self):
        for at, node in nodes():
            if isinstance(node, ast.ImportFrom):
                self.assertEqual(node.level, 0, at)
                self.assertTrue(node.module.startswith("pointbodies."), at)
                self.assertNotIn("*", [name.name for name in node.names], at)

    def test_top_of_files(self):
        for path, tree in trees():
            bound = []
            for node in tree.body:
                self.assertIsInstance(node, (ast.Expr, ast.ImportFrom, ast.FunctionDef, ast.Assign))
                if isinstance(node, ast.Expr):
                    self.assertIsInstance(node.value, ast.Constant)
                if isinstance(node, ast.FunctionDef):
                    bound.append(node.name)
                if isinstance(node, ast.Assign):
                    bound.append(node.targets[0].id)
                if isinstance(node, ast.ImportFrom):
                    bound += [name.name for name in node.names]
            self.assertEqual(len(bound), len(set(bound)), path)

    def test_walks_are_not_kept(self):
        for path, tree in trees():
            for node in ast.walk(tree):
                if isinstance(node, (ast.Assign, ast.Return)) and isinstance(node.value, ast.Call):
                    called = node.value.func
                    self.assertNotIn(called.id if isinstance(called, ast.Name) else called.attr, WALKED)


class Silence(unittest.TestCase):
    def test_prints_and_imports_nothing(self):
        script = """
import sys
before = set(sys.modules)
import pointbodies.bodies as bodies
bodies.hull(2, [[0, 0], [4, 0], [0, 3]])
bodies.hull(2, [])
bodies.cut(3, [[1, 2, 3, 4]])
bodies.cut(3, [[]])
bodies.where(2, [1, 2, 1, 2], [[0, 0], [4, 0], [0, 3]])
bodies.where(2, [], [[0, 0]])
bodies.mixed(2, [1, 2, 1, 2], [[0, 0], [4, 0], [0, 3]])
bodies.mixed(2, [5, 1, 5, 1], [[0, 0], [4, 0], [0, 3]])
bodies.mixed(2, [], [[0, 0]])
bodies.most(2, [1, 2], [[0, 0], [4, 0], [0, 3]])
bodies.most(2, [], [[0, 0]])
bodies.needless(3, [[1, 2, 3, 4], [2, 4, 6, 8]])
bodies.needless(3, [[]])
more = sorted(name for name in set(sys.modules) - before if name.split(".")[0] != "pointbodies")
if more:
    sys.exit(repr(more))
"""
        done = subprocess.run([sys.executable, "-S", "-c", script], cwd=ROOT, stdin=subprocess.DEVNULL,
                              capture_output=True, text=True)
        self.assertEqual((done.returncode, done.stdout, done.stderr), (0, "", ""))


if __name__ == "__main__":
    unittest.main()
