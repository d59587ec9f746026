"""The rules of LANGUAGE.md that a walk over the package's files can see.

What needs judgement (L11, L15, L18, L19, L23, L24, L26, L28) is held by reading, not here.
"""

import ast
import builtins
import pathlib
import re
import unittest

PACKAGE = pathlib.Path(__file__).resolve().parent.parent / "tankbalance"

OWN_NAMES = set(
    "len range enumerate zip min max sum abs sorted reversed int str bool list tuple dict set frozenset isinstance "
    "ord repr any all divmod Exception ValueError TypeError KeyError IndexError LookupError ZeroDivisionError "
    "ArithmeticError OverflowError RuntimeError NotImplementedError AttributeError StopIteration".split()
)
OWN_METHODS = set(
    "append clear copy count endswith extend find get index insert isalnum isalpha isdigit islower isspace isupper "
    "items join keys ljust lower lstrip partition pop remove replace reverse rfind rjust rpartition rsplit rstrip "
    "setdefault split splitlines startswith strip update upper values zfill bit_length".split()
)
TWO_UNDERSCORES = set("__init__ __eq__ __repr__ __str__ __len__".split())
NODES = set(
    "Module FunctionDef ClassDef arguments arg Return Assign AugAssign For While If Raise Try ExceptHandler "
    "ImportFrom alias Expr Pass Break Continue BoolOp And Or BinOp Add Sub Mult FloorDiv Mod Pow BitAnd BitOr BitXor "
    "LShift RShift UnaryOp Not USub UAdd Invert Lambda IfExp Dict Set ListComp comprehension Compare Eq NotEq Lt LtE "
    "Gt GtE Is IsNot In NotIn Call keyword FormattedValue JoinedStr Constant Attribute Subscript Slice Name Load "
    "Store List Tuple".split()
)
WORDS = re.compile(
    r"\b(type|typing|typing_extensions|enum|Enum|IntEnum|StrEnum|Flag|IntFlag|Generic|Protocol|ABC|ABCMeta"
    r"|namedtuple|NamedTuple|TypedDict|TYPE_CHECKING|abstractmethod)\b|dataclass|overload|contextmanager"
)
BANNED_NAMES = set("register mro elements open input version_info with_traceback add_note format format_map".split())


def faults_of_text(text):
    faults = []
    lines = text.split("\n")
    if len(lines) - 1 > 400:
        faults.append("L10 file too long")
    for at, line in enumerate(lines, 1):
        if len(line) > 120:
            faults.append(f"L10 line {at} too long")
        if any(not " " <= sign <= "~" for sign in line):
            faults.append(f"L14 line {at} has a sign that is out")
        if WORDS.search(line):
            faults.append(f"L17 line {at} has a word that is out")
    return faults


def faults_of_import(node):
    if node.level or not (node.module or "").startswith("tankbalance."):
        return ["L2 import from elsewhere"]
    return ["L2 import of all"] if any(part.name == "*" for part in node.names) else []


def faults_of_def(node):
    faults = []
    if node.decorator_list:
        faults.append("L4 decorator")
    if isinstance(node, ast.ClassDef):
        if len(node.bases) > 1 or node.keywords:
            faults.append("L5 bases")
        if not all(isinstance(part, (ast.FunctionDef, ast.Pass)) for part in node.body):
            faults.append("L5 class body")
        return faults
    plain = node.args
    if plain.vararg or plain.kwarg or plain.kwonlyargs or plain.posonlyargs:
        faults.append("L4 parameters")
    if node.end_lineno - node.lineno + 1 > 40:
        faults.append("L10 function too long")
    return faults


def bound_name(node):
    if isinstance(node, ast.Name) and isinstance(node.ctx, ast.Store):
        return node.id
    if isinstance(node, ast.arg):
        return node.arg
    if isinstance(node, (ast.FunctionDef, ast.ClassDef)):
        return node.name
    return None


def faults_of_names(node):
    faults = []
    name = bound_name(node)
    if name is not None and name not in TWO_UNDERSCORES:
        if name.startswith("_") or name in BANNED_NAMES:
            faults.append(f"L12 or L17 name {name}")
    if isinstance(node, (ast.Name, ast.arg)) and name is not None and hasattr(builtins, name):
        faults.append(f"L15 name {name}")
    if isinstance(node, ast.Name) and hasattr(builtins, node.id) and node.id not in OWN_NAMES:
        faults.append(f"L8 name {node.id}")
    if isinstance(node, ast.Attribute):
        if node.attr in BANNED_NAMES or (node.attr.startswith("_") and node.attr != "__init__"):
            faults.append(f"L8 or L17 attribute {node.attr}")
    return faults


def faults_of_expression(node):
    if isinstance(node, ast.Compare):
        for sign, right in zip(node.ops, node.comparators):
            if isinstance(sign, (ast.Is, ast.IsNot)):
                if not (isinstance(right, ast.Constant) and right.value in (None, True, False)):
                    return ["L20 is"]
    if isinstance(node, ast.Constant) and isinstance(node.value, (float, complex, bytes)):
        return ["L7 value"]
    if isinstance(node, ast.Assign) and len(node.targets) > 1:
        return ["L6 targets"]
    if isinstance(node, ast.Try) and node.finalbody:
        return ["L6 finally"]
    if isinstance(node, (ast.For, ast.While)) and node.orelse:
        return ["L6 else behind a loop"]
    if isinstance(node, ast.ListComp) and (len(node.generators) > 1 or len(node.generators[0].ifs) > 1):
        return ["L7 comprehension"]
    if isinstance(node, ast.Expr) and not isinstance(node.value, (ast.Call, ast.Constant)):
        return ["L6 statement"]
    return []


def faults_of_code(text, own_methods=()):
    faults = []
    for node in ast.walk(ast.parse(text)):
        found = [] if type(node).__name__ in NODES else [f"L6 or L7 {type(node).__name__}"]
        if isinstance(node, ast.ImportFrom):
            found += faults_of_import(node)
        if isinstance(node, (ast.FunctionDef, ast.ClassDef)):
            found += faults_of_def(node)
        if isinstance(node, ast.Call) and isinstance(node.func, ast.Attribute):
            if node.func.attr not in OWN_METHODS and node.func.attr not in own_methods:
                found.append(f"L25 method {node.func.attr}")
        found += faults_of_names(node) + faults_of_expression(node)
        faults += [f"{fault} (line {getattr(node, 'lineno', 1)})" for fault in found]
    return faults


def methods_of(texts):
    trees = [ast.parse(text) for text in texts]
    classes = [node for tree in trees for node in ast.walk(tree) if isinstance(node, ast.ClassDef)]
    return {part.name for node in classes for part in node.body if isinstance(part, ast.FunctionDef)}


def drawn_from(text):
    return [n.module.split(".")[-1] for n in ast.walk(ast.parse(text)) if isinstance(n, ast.ImportFrom)]


class LanguageTest(unittest.TestCase):
    def setUp(self):
        self.texts = {path.stem: path.read_text(encoding="utf-8") for path in PACKAGE.glob("*.py")}

    def test_files(self):
        for path in PACKAGE.iterdir():
            # Python itself may lay this one down while the tests run.
            if path.name != "__pycache__":
                self.assertRegex(path.name, r"^(__init__|__main__|[a-z][a-z0-9_]*)\.py$")
        self.assertIn("__init__", self.texts)

    def test_texts_and_code(self):
        own_methods = methods_of(self.texts.values())
        for name, text in self.texts.items():
            with self.subTest(file=name):
                self.assertEqual(faults_of_text(text) + faults_of_code(text, own_methods), [])

    def test_no_two_files_draw_from_one_another(self):
        draws = {name: set(drawn_from(text)) for name, text in self.texts.items()}
        for step in range(len(draws)):
            for name in draws:
                draws[name] = draws[name].union(*[draws[other] for other in draws[name]])
        for name, reached in draws.items():
            self.assertNotIn(name, reached)

    def test_the_walk_sees_faults(self):
        wrong = (
            "import os", "from random import choice", "from tankbalance.places import *", "x = 1.5", "x = 3 / 2",
            "def f(*a):\n    pass", "def f(_a):\n    pass", "def f(sum):\n    pass", "a = b = 1", "x = {1: 2 for y in z}",
            "x = [a for b in c for a in b]", "x = (a for a in b)", "if x is y:\n    pass", "x.sort()", "map(f, x)",
            "class A:\n    x = 1", "for a in b:\n    pass\nelse:\n    pass", "with a:\n    pass", "assert x", "x.y == 1",
            "try:\n    pass\nfinally:\n    pass", "def f():\n    yield 1", "def f():\n" + "    f()\n" * 40,
        )
        for text in wrong:
            with self.subTest(text=text):
                self.assertNotEqual(faults_of_code(text), [])
        for text in ("x" * 121, "a\tb", "caf\u00e9", "# a type", "# my_dataclass", "a\n" * 401):
            with self.subTest(text=text):
                self.assertNotEqual(faults_of_text(text), [])


if __name__ == "__main__":
    unittest.main()
