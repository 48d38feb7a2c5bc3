"""The package keeps to its small part of Python: the rules that can be seen in the files."""

import ast
import builtins
import pathlib
import re
import unittest

PACKAGE = pathlib.Path(__file__).resolve().parent.parent / "onewindow"
FILES = sorted(path for path in PACKAGE.rglob("*") if path.is_file() and "__pycache__" not in path.parts)

ERRORS = ("Exception ValueError TypeError KeyError IndexError LookupError ZeroDivisionError ArithmeticError "
          "OverflowError RuntimeError NotImplementedError AttributeError StopIteration").split()
BUILT_IN = ERRORS + ("len range enumerate zip min max sum abs sorted reversed int str bool list tuple dict set frozenset "
                     "isinstance ord repr any all divmod").split()
METHODS = ("append clear copy count endswith extend find get index insert isalnum isalpha isdigit islower isspace isupper "
           "items join keys ljust lower lstrip partition pop remove replace reverse rfind rjust rpartition rsplit rstrip "
           "setdefault split splitlines startswith strip update upper values zfill bit_length").split()
NODES = ("Module FunctionDef ClassDef Return Assign AugAssign For While If Raise Try ImportFrom Expr Pass Break Continue "
         "BoolOp BinOp UnaryOp Lambda IfExp Dict Set ListComp Compare Call JoinedStr FormattedValue Constant Attribute "
         "Subscript Name List Tuple Slice Load Store And Or Add Sub Mult Mod Pow LShift RShift BitOr BitXor BitAnd "
         "FloorDiv Invert Not UAdd USub Eq NotEq Lt LtE Gt GtE Is IsNot In NotIn comprehension ExceptHandler arguments "
         "arg keyword alias").split()
WORDS = re.compile(r"\b(type|typing|typing_extensions|enum|Enum|IntEnum|StrEnum|Flag|IntFlag|Generic|Protocol|ABC|ABCMeta|"
                   r"namedtuple|NamedTuple|TypedDict|TYPE_CHECKING|abstractmethod)\b|dataclass|overload|contextmanager")
METHODS_WITH_UNDERSCORES = ("__init__", "__eq__", "__repr__", "__str__", "__len__")


def bound_names(tree):
    """Every name that a file gives a meaning to, with its line."""
    for node in ast.walk(tree):
        if isinstance(node, (ast.FunctionDef, ast.ClassDef)):
            yield node.name, node.lineno
        elif isinstance(node, ast.arg):
            yield node.arg, node.lineno
        elif isinstance(node, ast.Name) and isinstance(node.ctx, ast.Store):
            yield node.id, node.lineno


def faults_of_text(text):
    """Signs, sizes and words that are out."""
    faults = []
    rows = text.split("\n")
    if len(rows) > 401:
        faults.append("L10 a file of over 400 lines")
    for number, row in enumerate(rows, 1):
        if len(row) > 120:
            faults.append(f"L10 line {number} is too long")
        if re.search("[^ -~]", row):
            faults.append(f"L14 line {number} holds a sign that is out")
        if WORDS.search(row):
            faults.append(f"L17 line {number} holds a word that is out")
    return faults


def faults_of_node(node):
    """What is out at one place of the tree."""
    faults = []
    if type(node).__name__ not in NODES:
        faults.append(f"L6, L7 {type(node).__name__}")
    if isinstance(node, ast.FunctionDef):
        if node.end_lineno - node.lineno + 1 > 40:
            faults.append("L10 a function of over 40 lines")
        if node.decorator_list or node.args.vararg or node.args.kwarg or node.args.kwonlyargs or node.args.posonlyargs:
            faults.append("L4 parameters or a decorator")
    if isinstance(node, ast.ImportFrom) and (node.level or not node.module.startswith("onewindow.")):
        faults.append("L2 an import from outside")
    if isinstance(node, (ast.For, ast.While)) and node.orelse:
        faults.append("L6 else behind a loop")
    if isinstance(node, ast.Assign) and len(node.targets) > 1:
        faults.append("L6 several targets")
    if isinstance(node, ast.Constant) and isinstance(node.value, (float, bytes, complex)):
        faults.append("L7 a value that is out")
    if isinstance(node, ast.ListComp) and (len(node.generators) > 1 or len(node.generators[0].ifs) > 1):
        faults.append("L7 a comprehension with more than one for or if")
    return faults


def faults_of_names(tree):
    """Names that are out, or that are given another meaning."""
    faults = []
    for name, line in bound_names(tree):
        if name.startswith("_") and name not in METHODS_WITH_UNDERSCORES:
            faults.append(f"L12 {name} in line {line}")
        if name in dir(builtins):
            faults.append(f"L15 {name} in line {line}")
    own = {name for name, line in bound_names(tree)}
    own |= {alias.name for node in ast.walk(tree) if isinstance(node, ast.ImportFrom) for alias in node.names}
    values = {node.attr for node in ast.walk(tree) if isinstance(node, ast.Attribute) and isinstance(node.ctx, ast.Store)}
    for node in ast.walk(tree):
        if isinstance(node, ast.Name) and node.id not in own and node.id not in BUILT_IN:
            faults.append(f"L8 {node.id} in line {node.lineno}")
        if isinstance(node, ast.Attribute) and node.attr not in own | values and node.attr not in METHODS:
            faults.append(f"L25 {node.attr} in line {node.lineno}")
    return faults


def top_names(tree):
    """Every name that is bound at a file's top, as often as it is."""
    names = []
    for node in tree.body:
        if isinstance(node, ast.ImportFrom):
            names += [alias.asname or alias.name for alias in node.names]
        elif isinstance(node, (ast.FunctionDef, ast.ClassDef)):
            names.append(node.name)
        elif isinstance(node, ast.Assign):
            names += [target.id for target in node.targets if isinstance(target, ast.Name)]
    return names


def faults_of_top(tree):
    """Names bound twice at the top, and parameters and locals that hide a name of the top."""
    names = top_names(tree)
    faults = [f"L15 {name} is bound twice" for name in sorted(set(names)) if names.count(name) > 1]
    for def_node in [node for node in ast.walk(tree) if isinstance(node, ast.FunctionDef)]:
        within = ast.Module(body=def_node.body, type_ignores=[])
        inner = [name for name, line in bound_names(within)] + [arg.arg for arg in def_node.args.args]
        faults += [f"L15 {name} within {def_node.name}" for name in sorted(set(inner) & set(names))]
    return faults


def faults_of(text):
    tree = ast.parse(text)
    faults = faults_of_text(text) + faults_of_names(tree) + faults_of_top(tree)
    for node in ast.walk(tree):
        faults += [f"{fault} in line {getattr(node, 'lineno', 0)}" for fault in faults_of_node(node)]
    return faults


class Language(unittest.TestCase):
    def test_files(self):
        self.assertIn(PACKAGE / "__init__.py", FILES)
        self.assertIn(PACKAGE / "persons.py", FILES)
        for path in FILES:
            with self.subTest(path=path.name):
                self.assertRegex(path.name, r"\A(__init__|[a-z][a-z0-9_]*)\.py\Z")

    def test_each_file_keeps_to_the_rules(self):
        for path in FILES:
            with self.subTest(path=path.name):
                self.assertEqual(faults_of(path.read_text(encoding="utf-8")), [])

    def test_code_outside_the_rules_is_seen(self):
        for text in ("import os\n", "from random import random\n", "x = 1.5\n", "x = 4 / 2\n", "def f(*xs):\n    pass\n",
                     "sum = 3\n", "x = print(1)\n", "# a type\n", "x = 1\t\n", "def f(xs):\n    xs.sort()\n",
                     "def f():\n" + "    pass\n" * 40, "def f():\n    yield 1\n", "x = y = 1\n", "def _f():\n    pass\n",
                     "x = 1\nx = 2\n", "def f():\n    pass\ndef g(f):\n    pass\n", "X = 1\ndef g():\n    X = 2\n"):
            with self.subTest(text=text):
                self.assertNotEqual(faults_of(text), [])


if __name__ == "__main__":
    unittest.main()
