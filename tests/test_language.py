"""The form of the package's own files: the rules of LANGUAGE.md that can be told from a file's text and tree."""

import ast
import builtins
import re
import unittest
from pathlib import Path

PACKAGE = Path(__file__).resolve().parent.parent / "pegsandbricks"

NODES = (
    "Module Import ImportFrom alias FunctionDef arguments arg Lambda ClassDef Assign AugAssign If While For Return "
    "Break Continue Pass Raise Try ExceptHandler Expr Constant List Tuple Dict Set Name Attribute Subscript Slice "
    "Call keyword BinOp UnaryOp BoolOp Compare IfExp ListComp comprehension JoinedStr FormattedValue Load Store "
    "Add Sub Mult FloorDiv Mod Pow BitAnd BitOr BitXor LShift RShift Invert USub UAdd Not And Or "
    "Eq NotEq Lt LtE Gt GtE Is IsNot In NotIn"
).split()

BUILT_IN = (
    "len range enumerate zip min max sum abs sorted reversed int str bool list tuple dict set frozenset isinstance "
    "ord repr any all divmod Exception ValueError TypeError KeyError IndexError LookupError ZeroDivisionError "
    "ArithmeticError OverflowError RuntimeError NotImplementedError AttributeError StopIteration"
).split()

METHODS = (
    "append clear copy count endswith extend find get index insert isalnum isalpha isdigit islower isspace isupper "
    "items join keys ljust lower lstrip partition pop remove replace reverse rfind rjust rpartition rsplit rstrip "
    "setdefault split splitlines startswith strip update upper values zfill bit_length"
).split()

UNDERSCORED = ("__init__", "__eq__", "__repr__", "__str__", "__len__")

WORDS_OUT = re.compile(
    r"\b(type|typing|typing_extensions|enum|Enum|IntEnum|StrEnum|Flag|IntFlag|Generic|Protocol|ABC|ABCMeta|"
    r"namedtuple|NamedTuple|TypedDict|TYPE_CHECKING|abstractmethod)\b|dataclass|overload|contextmanager")


def package_files():
    return sorted(path for path in PACKAGE.rglob("*") if path.is_file() and "__pycache__" not in path.parts)


def bound_names(tree):
    """Every name that the file gives a meaning itself."""
    names = []
    for node in ast.walk(tree):
        if isinstance(node, (ast.FunctionDef, ast.ClassDef)):
            names.append(node.name)
        elif isinstance(node, ast.arg):
            names.append(node.arg)
        elif isinstance(node, ast.alias):
            names.append(node.asname or node.name)
        elif isinstance(node, ast.Name) and isinstance(node.ctx, ast.Store):
            names.append(node.id)
        elif isinstance(node, ast.ExceptHandler) and node.name:
            names.append(node.name)
    return names


def faults_of_text(text):
    faults = []
    lines = text.split("\n")
    if len(lines) > 401:
        faults.append("L10: the file is too long")
    for number, line in enumerate(lines, start=1):
        if len(line) > 120:
            faults.append(f"L10: line {number} is too long")
        if any(not " " <= sign <= "~" for sign in line):
            faults.append(f"L14: line {number} has a sign that is not allowed")
        if WORDS_OUT.search(line):
            faults.append(f"L17: line {number} has a word that is not used")
    return faults


def faults_of_node(node, own):
    faults = []
    if node.__class__.__name__ not in NODES:
        faults.append(f"L6, L7: {node.__class__.__name__}")
    if isinstance(node, ast.Import):
        faults.append("L16: import")
    if isinstance(node, ast.ImportFrom) and (node.level or not node.module.startswith("pegsandbricks.")):
        faults.append(f"L2: from {node.module}")
    if isinstance(node, ast.FunctionDef) and node.end_lineno - node.lineno + 1 > 40:
        faults.append(f"L10: {node.name} is too long")
    if isinstance(node, (ast.FunctionDef, ast.ClassDef)) and node.decorator_list:
        faults.append(f"L4, L5: {node.name} has a decorator")
    if isinstance(node, ast.arguments) and (node.vararg or node.kwarg or node.kwonlyargs or node.posonlyargs):
        faults.append("L4: parameters that are not plain")
    if isinstance(node, ast.Constant) and not isinstance(node.value, (int, str, type(None))):
        faults.append(f"L7: {node.value!r}")
    if isinstance(node, ast.Name) and node.id not in own and node.id not in BUILT_IN:
        faults.append(f"L8: {node.id}")
    if isinstance(node, (ast.While, ast.For)) and node.orelse:
        faults.append("L6: else behind a loop")
    if isinstance(node, ast.Assign) and (len(node.targets) != 1 or isinstance(node.targets[0], (ast.Tuple, ast.List))):
        faults.append("L6: more than one target")
    return faults


def faults_of_names(own):
    faults = [f"L15: {name} is Python's own" for name in own if name in BUILT_IN or name in dir(builtins)]
    faults += [f"L12: {name}" for name in own if name.startswith("_") and name not in UNDERSCORED]
    return faults


def faults(text):
    tree = ast.parse(text)
    own = bound_names(tree)
    found = faults_of_text(text) + faults_of_names(own)
    for node in ast.walk(tree):
        found += [f"line {getattr(node, 'lineno', '?')}: {fault}" for fault in faults_of_node(node, own)]
    return found


class Language(unittest.TestCase):
    def test_only_plainly_named_files_lie_in_the_package(self):
        self.assertIn(PACKAGE / "__init__.py", package_files())
        for path in package_files():
            with self.subTest(path=path):
                self.assertRegex(path.name, r"\A(__init__|[a-z][a-z0-9_]*)\.py\Z")
                self.assertNotRegex(path.name, r"\A(test|tests|testing|test_.*|site|conftest)\.py\Z")

    def test_package_keeps_to_its_part_of_the_language(self):
        for path in package_files():
            with self.subTest(path=path):
                self.assertEqual(faults(path.read_text(encoding="utf-8")), [])

    def test_methods_are_own_ones_or_those_that_are_listed(self):
        trees = [ast.parse(path.read_text(encoding="utf-8")) for path in package_files()]
        own = [name for tree in trees for name in bound_names(tree)]
        for tree in trees:
            for node in ast.walk(tree):
                if isinstance(node, ast.Call) and isinstance(node.func, ast.Attribute):
                    self.assertIn(node.func.attr, METHODS + own)

    def test_faults_are_found(self):
        for text in ("import os", "from os import path", "x = 1.5", "y = open", "def f(*a):\n    pass",
                     "a = b = 1", "len = 3", "_a = 1", "x = 1 / 2", "# a type", "x = {n for n in [1]}",
                     "for n in [1]:\n    pass\nelse:\n    pass", "x = '\u00e9'", "y = 1" + " " * 120):
            with self.subTest(text=text):
                self.assertNotEqual(faults(text), [])


if __name__ == "__main__":
    unittest.main()
