"""The form of the package's own files: the rules of LANGUAGE.md that can be told from a file's text and tree.

Where the package needs only a part of what a rule allows, no more than that part is let in.
"""

import ast
import builtins
import re
import unittest
from pathlib import Path

PACKAGE = Path(__file__).resolve().parent.parent / "pegsandbricks"

# Without errors, lambdas, written sets and f-strings, what L13, L19 and L27 say of them needs no test.
NODES = (
    "Module ImportFrom alias FunctionDef arguments arg ClassDef Assign AugAssign If While For Return "
    "Break Continue Pass Expr Constant List Tuple Dict Name Attribute Subscript Slice "
    "Call keyword BinOp UnaryOp BoolOp Compare IfExp ListComp comprehension Load Store "
    "Add Sub Mult FloorDiv Mod Pow BitAnd BitOr BitXor LShift RShift Invert USub UAdd Not And Or "
    "Eq NotEq Lt LtE Gt GtE Is IsNot In NotIn"
).split()

BUILT_IN = (
    "len range enumerate zip min max sum abs sorted reversed int str bool list tuple dict set frozenset isinstance "
    "ord repr any all divmod"
).split()

METHODS = (
    "append clear copy count endswith extend find get index insert isalnum isalpha isdigit islower isspace isupper "
    "items join keys ljust lower lstrip partition pop remove replace reverse rfind rjust rpartition rsplit rstrip "
    "setdefault split splitlines startswith strip update upper values zfill bit_length"
).split()

CHANGES = "append clear extend insert pop remove reverse setdefault update".split()

KEYWORDS = (("sorted", "key"), ("sorted", "reverse"), ("min", "key"), ("min", "default"), ("max", "key"),
            ("max", "default"), ("sum", "start"), ("enumerate", "start"), ("zip", "strict"))

WALKED = "zip enumerate reversed range items keys values".split()
WALKERS = "list tuple dict sorted sum any all enumerate zip".split()

NAMES_OUT = (
    "register mro elements open input version_info with_traceback add_note attrgetter breakpoint builtins compile "
    "copyright credits delattr dir eval exec exit gc getattr globals hasattr help id importlib license locals "
    "methodcaller os quit setattr super type vars sys format format_map"
).split()

FILES_OUT = "test tests testing site conftest sitecustomize usercustomize typing enum dataclass".split()

WORDS_OUT = re.compile(
    r"\b(type|typing|typing_extensions|enum|Enum|IntEnum|StrEnum|Flag|IntFlag|Generic|Protocol|ABC|ABCMeta|"
    r"namedtuple|NamedTuple|TypedDict|TYPE_CHECKING|abstractmethod)\b|dataclass|overload|contextmanager")


def package_files():
    return sorted(path for path in PACKAGE.rglob("*") if path.is_file() and "__pycache__" not in path.parts)


def package_trees():
    return {path.stem: ast.parse(path.read_text(encoding="utf-8")) for path in package_files()}


def nodes(tree, *kinds):
    return [node for node in ast.walk(tree) if isinstance(node, kinds)]


def called_name(node):
    """The name or method that is called there, if that is a call."""
    if not isinstance(node, ast.Call):
        return ""
    return node.func.attr if isinstance(node.func, ast.Attribute) else getattr(node.func, "id", "")


def inner_names(tree):
    """Every parameter and local of the file."""
    names = [node.arg for node in nodes(tree, ast.arg)]
    for function in nodes(tree, ast.FunctionDef):
        names += [node.id for node in nodes(function, ast.Name) if isinstance(node.ctx, ast.Store)]
    return names


def top_names(tree):
    """Every name that is bound at the file's top, as often as it is."""
    names = []
    for node in tree.body:
        if isinstance(node, (ast.FunctionDef, ast.ClassDef)):
            names.append(node.name)
        elif isinstance(node, ast.ImportFrom):
            names += [alias.asname or alias.name for alias in node.names]
        elif isinstance(node, ast.Assign):
            names += [target.id for target in node.targets if isinstance(target, ast.Name)]
    return names


def method_names(tree):
    return [node.name for owner in nodes(tree, ast.ClassDef) for node in nodes(owner, ast.FunctionDef)]


def value_names(tree):
    return [node.attr for node in nodes(tree, ast.Attribute) if isinstance(node.ctx, ast.Store)]


def faults_of_text(text):
    faults = []
    lines = text.split("\n")
    if len(lines) > 401:
        faults.append("L10: the file is too long")
    for number, line in enumerate(lines, start=1):
        if len(line) > 120:
            faults.append(f"L10: line {number} is too long")
        if any(not " " <= sign <= "~" for sign in line):
            faults.append(f"L14: line {number} has a sign that is not allowed")
        if WORDS_OUT.search(line):
            faults.append(f"L17: line {number} has a word that is not used")
    return faults


def faults_of_names(tree):
    own = inner_names(tree) + top_names(tree) + method_names(tree) + value_names(tree)
    faults = [f"L12: {name}" for name in own if name.startswith("_") and name != "__init__"]
    faults += [f"L17: {name}" for name in own if name in NAMES_OUT]
    faults += [f"L15: {name} is Python's own" for name in inner_names(tree) + top_names(tree) if name in dir(builtins)]
    known = inner_names(tree) + top_names(tree) + BUILT_IN
    faults += [f"L8: {node.id}" for node in nodes(tree, ast.Name) if node.id not in known]
    return faults


def faults_of_top(tree):
    names = top_names(tree)
    faults = [f"L15: {name} is bound twice" for name in set(names) if names.count(name) > 1]
    outer = [node.name for node in tree.body if isinstance(node, ast.ClassDef)]
    outer += [alias.name for node in nodes(tree, ast.ImportFrom) for alias in node.names]
    faults += [f"L15: {name} is a class or an import" for name in inner_names(tree) if name in outer]
    for place, node in enumerate(tree.body):
        docstring = place == 0 and isinstance(node, ast.Expr) and isinstance(node.value, ast.Constant)
        if not docstring and not isinstance(node, (ast.ImportFrom, ast.FunctionDef, ast.ClassDef, ast.Assign)):
            faults.append(f"L3: {node.__class__.__name__} at the top")
        if isinstance(node, ast.Assign):
            plain = (ast.Constant, ast.Tuple, ast.UnaryOp, ast.USub, ast.Load)
            faults += [f"L3: {part.__class__.__name__} in a value of the top" for part in ast.walk(node.value)
                       if not isinstance(part, plain)]
    return faults


def faults_of_definition(node):
    faults = []
    if isinstance(node, (ast.FunctionDef, ast.ClassDef)) and node.decorator_list:
        faults.append(f"L4, L5: {node.name} has a decorator")
    if isinstance(node, ast.FunctionDef):
        if node.end_lineno - node.lineno + 1 > 40:
            faults.append(f"L10: {node.name} is too long")
        if node.returns or [arg for arg in nodes(node, ast.arg) if arg.annotation]:
            faults.append(f"L21: {node.name} has an annotation")
        if len(nodes(node, ast.FunctionDef)) > 1:
            faults.append(f"L21: {node.name} has a def within it")
        if node.name == "__init__" and nodes(node, ast.Return):
            faults.append("L28: __init__ gives something back")
    if isinstance(node, ast.ClassDef):
        names = method_names(ast.Module([node], []))
        faults += [f"L18: {name} stands twice" for name in set(names) if names.count(name) > 1]
        faults += ["L5: a value in the class body" for part in node.body[1:] if not isinstance(part, ast.FunctionDef)]
        if node.bases or node.keywords:
            faults.append("L5: a base")
    if isinstance(node, ast.arguments) and (node.vararg or node.kwarg or node.kwonlyargs or node.posonlyargs):
        faults.append("L4: parameters that are not plain")
    return faults


def walked_names(node):
    """The names that a loop walks, itself or through enumerate, zip, reversed, items."""
    if isinstance(node, ast.Name):
        return [node.id]
    if called_name(node) in ("enumerate", "zip", "reversed"):
        return [name for part in node.args for name in walked_names(part)]
    if called_name(node) in ("items", "keys", "values"):
        return walked_names(node.func.value)
    return []


def faults_of_statement(node):
    faults = []
    if isinstance(node, ast.ImportFrom) and (node.level or not node.module.startswith("pegsandbricks.")):
        faults.append(f"L2: from {node.module}")
    if isinstance(node, (ast.While, ast.For)) and node.orelse:
        faults.append("L6: else behind a loop")
    if isinstance(node, ast.Assign) and (len(node.targets) != 1 or isinstance(node.targets[0], (ast.Tuple, ast.List))):
        faults.append("L6: more than one target")
    if isinstance(node, ast.For):
        walked = walked_names(node.iter)
        for part in [part for statement in node.body for part in ast.walk(statement)]:
            changed = None
            if called_name(part) in CHANGES and isinstance(part.func, ast.Attribute):
                changed = part.func.value
            elif isinstance(part, ast.Subscript) and isinstance(part.ctx, ast.Store):
                changed = part.value
            elif isinstance(part, ast.AugAssign):
                changed = part.target
            if isinstance(changed, ast.Name) and changed.id in walked:
                faults.append(f"L23: {changed.id} is changed while it is walked")
    return faults


def faults_of_value(node):
    faults = []
    if isinstance(node, ast.Constant) and not isinstance(node.value, (int, str, type(None))):
        faults.append(f"L7: {node.value!r}")
    if isinstance(node, ast.Constant) and isinstance(node.value, str) and "%" in node.value:
        faults.append("L27: a text with its sign")
    if isinstance(node, ast.ListComp) and (len(node.generators) > 1 or len(node.generators[0].ifs) > 1):
        faults.append("L7: more than one for or if")
    if isinstance(node, ast.BinOp) and isinstance(node.op, ast.Pow):
        if not isinstance(node.right, ast.Constant) or not 0 <= node.right.value <= 64:
            faults.append("L27: an exponent that is not written")
    if isinstance(node, ast.Compare) and any(isinstance(op, (ast.Is, ast.IsNot)) for op in node.ops):
        beside = [part for part in (node.left, *node.comparators) if isinstance(part, ast.Constant)]
        if not [part for part in beside if part.value is None or isinstance(part.value, bool)]:
            faults.append("L20: is")
    if isinstance(node, ast.Call):
        faults += [f"L22: {word.arg} at {called_name(node)}" for word in node.keywords
                   if (called_name(node), word.arg) not in KEYWORDS]
    return faults


def walked_at_once(node, parent):
    if isinstance(parent, (ast.For, ast.comprehension)):
        return node is parent.iter
    if called_name(parent) in WALKERS:
        return node is parent.args[0] or called_name(parent) == "zip"
    return called_name(parent) in ("min", "max") and parent.args == [node]


def set_stands_well(node, parent):
    if isinstance(parent, ast.Compare):
        return all(isinstance(op, (ast.In, ast.NotIn, ast.Eq, ast.NotEq)) for op in parent.ops)
    return called_name(parent) in ("sorted", "len") and not parent.keywords


def faults_beside(node, parent):
    faults = []
    if called_name(node) in WALKED and not walked_at_once(node, parent):
        faults.append(f"L23: {called_name(node)} is kept")
    if called_name(node) in ("set", "frozenset") and not set_stands_well(node, parent):
        faults.append("L24: a set is kept or walked")
    if isinstance(node, ast.Name) and node.id in BUILT_IN:
        if not (isinstance(parent, ast.Call) and node is parent.func) and not isinstance(parent, ast.keyword):
            faults.append(f"L22: {node.id} is kept as a value")
    return faults


def faults(text):
    tree = ast.parse(text)
    found = faults_of_text(text) + faults_of_names(tree) + faults_of_top(tree)
    for node in ast.walk(tree):
        told = [] if node.__class__.__name__ in NODES else [f"L6, L7: {node.__class__.__name__}"]
        told += faults_of_definition(node) + faults_of_statement(node) + faults_of_value(node)
        for child in ast.iter_child_nodes(node):
            told += faults_beside(child, node)
        found += [f"line {getattr(node, 'lineno', '?')}: {fault}" for fault in told]
    return found


def faults_of_attributes(trees):
    """Methods are called where they stand and are the package's own or listed ones; values are the package's own."""
    methods = [name for tree in trees for name in method_names(tree)]
    values = [name for tree in trees for name in value_names(tree)]
    faults = [f"L18: {name} is a method and a value" for name in methods if name in values]
    for tree in trees:
        called = [node.func for node in nodes(tree, ast.Call)]
        for node in nodes(tree, ast.Attribute):
            if node in called and node.attr not in METHODS + methods:
                faults.append(f"L25: {node.attr}")
            if node not in called and node.attr not in values:
                faults.append(f"L25: {node.attr} is not called")
    return faults


def faults_of_imports(trees):
    """Each name comes from the file that defines it, and no two files draw from one another."""
    faults = []
    draws = {}
    for stem, tree in trees.items():
        draws[stem] = []
        for node in nodes(tree, ast.ImportFrom):
            source = node.module.split(".")[-1]
            draws[stem].append(source)
            own = [part.name for part in trees[source].body if isinstance(part, (ast.FunctionDef, ast.ClassDef))]
            faults += [f"L16: {alias.name}" for alias in node.names if alias.name not in own or alias.asname]
    while draws:
        free = [stem for stem in draws if not [source for source in draws[stem] if source in draws]]
        if not free:
            return faults + [f"L16: {sorted(draws)} draw from one another"]
        draws = {stem: draws[stem] for stem in draws if stem not in free}
    return faults


class Language(unittest.TestCase):
    def test_only_plainly_named_files_lie_in_the_package(self):
        self.assertIn(PACKAGE / "__init__.py", package_files())
        self.assertEqual([path.parent for path in package_files()], [PACKAGE] * len(package_files()))
        for path in package_files():
            with self.subTest(path=path):
                self.assertRegex(path.name, r"\A(__init__|[a-z][a-z0-9_]*)\.py\Z")
                self.assertFalse(path.stem.startswith("test_"))
                self.assertNotIn(path.stem, FILES_OUT + dir(builtins))

    def test_package_keeps_to_its_part_of_the_language(self):
        for path in package_files():
            with self.subTest(path=path):
                self.assertEqual(faults(path.read_text(encoding="utf-8")), [])

    def test_methods_and_values_of_the_package(self):
        self.assertEqual(faults_of_attributes(package_trees().values()), [])

    def test_imports_of_the_package(self):
        self.assertEqual(faults_of_imports(package_trees()), [])
        self.assertEqual(top_names(package_trees()["__init__"]), [])


class FaultsAreFound(unittest.TestCase):
    def test_in_a_file(self):
        for text in ("import os", "from os import path", "x = 1.5", "y = open", "def f(*a):\n    pass",
                     "a = b = 1", "len = 3", "_a = 1", "x = 1 / 2", "# a type", "x = {n for n in [1]}",
                     "for n in [1]:\n    pass\nelse:\n    pass", "x = '\u00e9'", "y = 1" + " " * 120,
                     "x = 1\nx = 2", "x = [1]", "x = 1\nif x:\n    x = 2", "class A:\n    x = 1\n    y = 2"):
            with self.subTest(text=text):
                self.assertNotEqual(faults(text), [])

    def test_in_a_function(self):
        for text in ("x, y = a", "return range(3)", "return zip(a, a)", "return a is b", "return 2 ** a",
                     "return set(a)", "return sorted(a, reverse=True, cmp=1)", "return len", "return '%'",
                     "for n in a:\n        a.append(n)", "for n, m in enumerate(a):\n        a[n] = m",
                     "return [n for n in a for m in b]", "return [lambda: 1]", "return f'{a}'", "raise a",
                     "try:\n        a = 1\n    except KeyError:\n        a = 2", "for n in set(a):\n        a = n",
                     "id = 3", "del a", "return chr(a)", "return max(range(a), b)"):
            with self.subTest(text=text):
                self.assertNotEqual(faults(f"def f(a, b):\n    {text}\n"), [])

    def test_not_where_there_are_none(self):
        for text in ("x = a", "return list(range(3))", "return a is None", "return a ** 2", "return len(set(a))",
                     "return min([n for n in a if n > b], default=0)", "for n in list(a):\n        a.append(n + 1)"):
            with self.subTest(text=text):
                self.assertEqual(faults(f"def f(a, b):\n    {text}\n"), [])

    def test_in_attributes_and_imports(self):
        for text in ("def f(a):\n    a.sort()\n", "def f(a):\n    return a.append\n",
                     "class A:\n    def b(self):\n        self.b = 1\n"):
            with self.subTest(text=text):
                self.assertNotEqual(faults_of_attributes([ast.parse(text)]), [])
        one = ast.parse("from pegsandbricks.two import g\ndef f():\n    return g()\n")
        two = ast.parse("from pegsandbricks.one import f\ndef g():\n    return f()\n")
        self.assertNotEqual(faults_of_imports({"one": one, "two": two}), [])
        self.assertEqual(faults_of_imports({"one": one, "two": ast.parse("def g():\n    return 1\n")}), [])
        self.assertNotEqual(faults_of_imports({"one": one, "two": ast.parse("def h():\n    return 1\n")}), [])


if __name__ == "__main__":
    unittest.main()
