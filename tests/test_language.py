"""The rules of LANGUAGE.md that a walk over the package's files can see.

Some rules are held more narrowly than they are written: no list, dict or set stands at a file's top, no `try` takes
an error of Python's own, no annotation is written, and of the methods with two underscores only `__init__`.

Held by reading alone, among others: how deep a recursion goes (L11); that an inner def does not assign what it
reads from around it (L4); what follows `from` in a `raise` (L19); that `reverse` and `strict` are written out as True or
False, and keywords at error classes (L22); changes through another name of what a loop walks (L23); where own methods
called `items`, `keys` or `values` are walked (L26).
"""

import ast
import builtins
import io
import pathlib
import re
import tokenize
import unittest

PACKAGE = pathlib.Path(__file__).resolve().parent.parent / "tankbalance"

OWN_NAMES = set(
    "len range enumerate zip min max sum abs sorted reversed int str bool list tuple dict set frozenset isinstance "
    "ord repr any all divmod Exception ValueError TypeError KeyError IndexError LookupError ZeroDivisionError "
    "ArithmeticError OverflowError RuntimeError NotImplementedError AttributeError StopIteration".split()
)
OWN_METHODS = set(
    "append clear copy count endswith extend find get index insert isalnum isalpha isdigit islower isspace isupper "
    "items join keys ljust lower lstrip partition pop remove replace reverse rfind rjust rpartition rsplit rstrip "
    "setdefault split splitlines startswith strip update upper values zfill bit_length".split()
)
TWO_UNDERSCORES = set("__init__ __eq__ __repr__ __str__ __len__".split())
NODES = set(
    "Module FunctionDef ClassDef arguments arg Return Assign AugAssign For While If Raise Try ExceptHandler "
    "ImportFrom alias Expr Pass Break Continue BoolOp And Or BinOp Add Sub Mult FloorDiv Mod Pow BitAnd BitOr BitXor "
    "LShift RShift UnaryOp Not USub UAdd Invert Lambda IfExp Dict Set ListComp comprehension Compare Eq NotEq Lt LtE "
    "Gt GtE Is IsNot In NotIn Call keyword FormattedValue JoinedStr Constant Attribute Subscript Slice Name Load "
    "Store List Tuple".split()
)
WORDS = re.compile(
    r"\b(type|typing|typing_extensions|enum|Enum|IntEnum|StrEnum|Flag|IntFlag|Generic|Protocol|ABC|ABCMeta"
    r"|namedtuple|NamedTuple|TypedDict|TYPE_CHECKING|abstractmethod)\b|dataclass|overload|contextmanager"
)
BANNED_NAMES = set("register mro elements open input version_info with_traceback add_note format format_map".split())
NOT_AS_NAMES = set(
    "attrgetter breakpoint builtins compile copyright credits delattr dir eval exec exit gc getattr globals hasattr "
    "help id importlib license locals methodcaller os quit setattr super type vars sys __name__".split()
)
FRAME_NAMES = re.compile(r"^(f|tb|co|gi|cr|ag)_[a-z]+$")
FILE_NAMES_OUT = set(
    "test tests testing site conftest sitecustomize usercustomize type typing typing_extensions enum namedtuple "
    "abstractmethod dataclass overload contextmanager".split()
)
KEYS = set("len int str abs sum min max tuple".split())
KINDS_ASKED = set("int str bool list tuple dict".split())
CHANGING = set("append clear extend insert pop remove reverse setdefault update".split())
VALUES_ALLOWED = set("count index title find get join lower upper split strip copy add".split())
KINDS_OF_PYTHON = (str, int, list, tuple, dict, set, frozenset, bytes, ValueError)
VALUES_OF_PYTHON = {name for kind in KINDS_OF_PYTHON for name in dir(kind)}

WALKED_NAMES = set("zip enumerate reversed range".split())
WALKED_METHODS = set("items keys values".split())
WALKERS = set("list tuple dict sorted sum any all enumerate zip min max".split())
KEYWORDS = {
    "sorted": {"key", "reverse"}, "min": {"key", "default"}, "max": {"key", "default"}, "sum": {"start"},
    "enumerate": {"start"}, "zip": {"strict"},
}


def faults_of_text(text):
    faults = []
    lines = text.split("\n")
    if len(lines) - 1 > 400:
        faults.append("L10 file too long")
    for at, line in enumerate(lines, 1):
        if len(line) > 120:
            faults.append(f"L10 line {at} too long")
        if any(not " " <= sign <= "~" for sign in line):
            faults.append(f"L14 line {at} has a sign that is out")
        if WORDS.search(line):
            faults.append(f"L17 line {at} has a word that is out")
    return faults


def faults_of_import(node):
    if node.level or not (node.module or "").startswith("tankbalance."):
        return ["L2 import from elsewhere"]
    return ["L2 import of all"] if any(part.name == "*" for part in node.names) else []


def faults_of_def(node):
    faults = []
    if node.decorator_list:
        faults.append("L4 decorator")
    if isinstance(node, ast.ClassDef):
        if len(node.bases) > 1 or node.keywords:
            faults.append("L5 bases")
        if not all(isinstance(part, (ast.FunctionDef, ast.Pass)) for part in node.body):
            faults.append("L5 class body")
        return faults
    plain = node.args
    if plain.vararg or plain.kwarg or plain.kwonlyargs or plain.posonlyargs:
        faults.append("L4 parameters")
    if node.end_lineno - node.lineno + 1 > 40:
        faults.append("L10 function too long")
    return faults


def bound_name(node):
    if isinstance(node, ast.Name) and isinstance(node.ctx, ast.Store):
        return node.id
    if isinstance(node, ast.arg):
        return node.arg
    if isinstance(node, (ast.FunctionDef, ast.ClassDef)):
        return node.name
    return None


def faults_of_names(node):
    faults = []
    name = bound_name(node)
    if name is not None and name not in TWO_UNDERSCORES:
        if name.startswith("_") or name in BANNED_NAMES:
            faults.append(f"L12 or L17 name {name}")
    if isinstance(node, (ast.Name, ast.arg)) and name is not None and hasattr(builtins, name):
        faults.append(f"L15 name {name}")
    if isinstance(node, ast.Name) and hasattr(builtins, node.id) and node.id not in OWN_NAMES:
        faults.append(f"L8 name {node.id}")
    if isinstance(node, ast.Attribute):
        if node.attr in BANNED_NAMES or (node.attr.startswith("_") and node.attr != "__init__"):
            faults.append(f"L8 or L17 attribute {node.attr}")
    return faults


def faults_of_expression(node):
    if isinstance(node, ast.Compare):
        for sign, right in zip(node.ops, node.comparators):
            if isinstance(sign, (ast.Is, ast.IsNot)):
                if not (isinstance(right, ast.Constant) and right.value in (None, True, False)):
                    return ["L20 is"]
    if isinstance(node, ast.Constant) and isinstance(node.value, (float, complex, bytes)):
        return ["L7 value"]
    if isinstance(node, ast.Assign) and len(node.targets) > 1:
        return ["L6 targets"]
    if isinstance(node, ast.Try) and node.finalbody:
        return ["L6 finally"]
    if isinstance(node, (ast.For, ast.While)) and node.orelse:
        return ["L6 else behind a loop"]
    if isinstance(node, ast.ListComp) and (len(node.generators) > 1 or len(node.generators[0].ifs) > 1):
        return ["L7 comprehension"]
    if isinstance(node, ast.Expr) and not isinstance(node.value, (ast.Call, ast.Constant)):
        return ["L6 statement"]
    return []


def called_name(node):
    if not isinstance(node, ast.Call):
        return None
    return node.func.id if isinstance(node.func, ast.Name) else getattr(node.func, "attr", None)


def walked_at_once(node, above):
    if isinstance(above, (ast.For, ast.comprehension)):
        return above.iter is node
    if called_name(above) in ("min", "max"):
        return len(above.args) == 1
    return called_name(above) in WALKERS | {"join"} and above.args[:1] == [node]


def set_on_the_spot(node, above):
    if isinstance(above, ast.BinOp):
        return isinstance(above.op, (ast.Sub, ast.BitAnd, ast.BitOr, ast.BitXor))
    if isinstance(above, ast.Compare):
        return all(isinstance(sign, (ast.In, ast.NotIn, ast.Eq, ast.NotEq)) for sign in above.ops)
    return called_name(above) in ("sorted", "len") and not above.keywords


def faults_of_calls(node, above):
    name = called_name(node)
    faults = []
    if name in (WALKED_METHODS if isinstance(getattr(node, "func", None), ast.Attribute) else WALKED_NAMES):
        if not walked_at_once(node, above):
            faults.append(f"L23 {name} is kept")
    if isinstance(node, ast.Set) or name in ("set", "frozenset"):
        if not set_on_the_spot(node, above):
            faults.append("L24 set is kept")
    if name in OWN_NAMES | OWN_METHODS:
        if any(keyword.arg not in KEYWORDS.get(name, ()) for keyword in node.keywords):
            faults.append(f"L22 keyword at {name}")
    return faults


def plain_value(node):
    """A written value that nothing can change: whole numbers, texts, True, False, None, and tuples of these."""
    if isinstance(node, ast.Tuple):
        return all(plain_value(part) for part in node.elts)
    if isinstance(node, ast.UnaryOp) and isinstance(node.op, ast.USub):
        return plain_value(node.operand)
    return isinstance(node, ast.Constant) and isinstance(node.value, (int, str, type(None)))


def faults_of_top(tree):
    faults = []
    bound = []
    for at, node in enumerate(tree.body):
        if isinstance(node, ast.Assign) and isinstance(node.targets[0], ast.Name):
            bound.append(node.targets[0].id)
            if not plain_value(node.value):
                faults.append("L3 or L15 value at the top")
        elif isinstance(node, (ast.FunctionDef, ast.ClassDef)):
            bound.append(node.name)
        elif isinstance(node, ast.ImportFrom):
            bound += [part.asname or part.name for part in node.names]
        elif not (at == 0 and isinstance(node, ast.Expr) and isinstance(node.value, ast.Constant)):
            faults.append("L3 statement at the top")
    faults += [f"L15 {name} is bound twice" for name in set(bound) if bound.count(name) > 1]
    inner = [node for node in ast.walk(tree) if isinstance(node, (ast.ClassDef, ast.ImportFrom))]
    faults += ["L2 or L15 not at the top" for node in inner if node not in tree.body]
    return faults


def faults_of_class(node):
    methods = [part.name for part in node.body if isinstance(part, ast.FunctionDef)]
    faults = [f"L18 method {name} stands twice" for name in set(methods) if methods.count(name) > 1]
    for part in node.body:
        if isinstance(part, ast.FunctionDef):
            if part.name.startswith("__") and part.name != "__init__":
                faults.append(f"L28 method {part.name}")
            if part.name == "__init__" and any(isinstance(inner, ast.Return) for inner in ast.walk(part)):
                faults.append("L28 __init__ gives something back")
            if part.name in VALUES_OF_PYTHON and part.name not in OWN_METHODS | TWO_UNDERSCORES | {"add", "discard"}:
                faults.append(f"L26 method {part.name}")
    return faults


def faults_of_form(node):
    """What shows at one node by itself, beside what faults_of_expression sees."""
    faults = []
    if isinstance(node, ast.arguments) and not all(plain_value(part) for part in node.defaults):
        faults.append("L4 default")
    if getattr(node, "annotation", None) or getattr(node, "returns", None):
        faults.append("L21 annotation")
    if isinstance(node, ast.ClassDef):
        faults += faults_of_class(node)
    if isinstance(node, ast.Raise):
        if not isinstance(node.exc, ast.Call):
            faults.append("L19 error not made on the spot")
    if isinstance(node, ast.ExceptHandler):
        if not isinstance(node.type, ast.Name) or hasattr(builtins, node.type.id):
            faults.append("L19 error of Python's own is taken")
    if isinstance(node, ast.FormattedValue):
        if not isinstance(node.value, ast.Name) or node.format_spec or node.conversion not in (-1, ord("r")):
            faults.append("L7 f-string")
    if isinstance(node, ast.BinOp) and isinstance(node.op, ast.Pow):
        if not (isinstance(node.right, ast.Constant) and node.right.value in range(65)):
            faults.append("L27 power")
    if isinstance(node, ast.Constant) and isinstance(node.value, str) and "%" in node.value:
        faults.append("L27 sign in a text")
    if isinstance(node, ast.Attribute) and isinstance(node.ctx, ast.Store):
        if not isinstance(node.value, ast.Name):
            faults.append("L18 value not given through a local name")
        if node.attr in VALUES_OF_PYTHON - VALUES_ALLOWED:
            faults.append(f"L26 value {node.attr}")
    if isinstance(node, ast.Name) and (node.id in NOT_AS_NAMES or FRAME_NAMES.match(node.id)):
        faults.append(f"L17 name {node.id}")
    if isinstance(node, ast.Attribute) and FRAME_NAMES.match(node.attr):
        faults.append(f"L17 attribute {node.attr}")
    return faults


def as_key(node, above):
    return isinstance(above, ast.keyword) and above.arg == "key" and above.value is node


def faults_of_use(node, above, further, classes, methods):
    """How a name of Python's own, a class or a method stands in what is above it, and above that."""
    called = isinstance(above, ast.Call) and above.func is node
    asked = [part for part in (above, further) if called_name(part) == "isinstance" and node is not part.func]
    if isinstance(node, ast.Name) and isinstance(node.ctx, ast.Load):
        if isinstance(above, ast.ClassDef) and node in above.bases:
            return []
        if isinstance(above, ast.ExceptHandler):
            return []
        if node.id in classes:
            return [] if called or asked else [f"L18 class {node.id} is handed on"]
        if node.id in OWN_NAMES and not called:
            if not (as_key(node, above) and node.id in KEYS) and not (asked and node.id in KINDS_ASKED):
                return [f"L22 {node.id} is kept"]
    if isinstance(node, ast.Attribute) and isinstance(node.ctx, ast.Load):
        if node.attr in OWN_METHODS | methods and not called and not as_key(node, above):
            return [f"L25 method {node.attr} is handed on"]
    return []


def walked_things(node):
    """What a loop walks: itself, or what stands in enumerate, zip, reversed, items and their like."""
    if isinstance(node, ast.Call):
        if called_name(node) in WALKED_METHODS and isinstance(node.func, ast.Attribute):
            return [ast.unparse(node.func.value)]
        if called_name(node) in ("enumerate", "zip", "reversed"):
            return [thing for part in node.args for thing in walked_things(part)]
        return []
    return [ast.unparse(node)]


def faults_of_loop(node):
    walked = walked_things(node.iter)
    for inner in [part for line in node.body for part in ast.walk(line)]:
        changed = None
        if isinstance(inner, ast.Call) and called_name(inner) in CHANGING and isinstance(inner.func, ast.Attribute):
            changed = inner.func.value
        if isinstance(inner, ast.Subscript) and isinstance(inner.ctx, ast.Store):
            changed = inner.value
        if isinstance(inner, ast.AugAssign):
            changed = inner.target
        if changed is not None and ast.unparse(changed) in walked:
            return ["L23 what the loop walks is changed"]
    return []


def faults_of_lambdas(tree):
    seen = [(n.lineno, ast.unparse(n.args)) for n in ast.walk(tree) if isinstance(n, ast.Lambda)]
    return ["L13 lambdas"] if len(set(seen)) < len(seen) else []


def faults_of_escapes(text):
    faults = []
    for token in tokenize.generate_tokens(io.StringIO(text).readline):
        if token.type == tokenize.STRING:
            if any(found not in "nt\\'\"" for found in re.findall(r"\\(.)", token.string, re.DOTALL)):
                faults.append("L27 escape")
    return faults


def faults_of_forms(text, classes=(), methods=()):
    """The rules that the walk of faults_of_code does not see."""
    tree = ast.parse(text)
    faults = faults_of_top(tree) + faults_of_lambdas(tree) + faults_of_escapes(text)
    above = {node: upper for upper in ast.walk(tree) for node in ast.iter_child_nodes(upper)}
    for node in ast.walk(tree):
        found = faults_of_form(node)
        found += faults_of_use(node, above.get(node), above.get(above.get(node)), set(classes), set(methods))
        if isinstance(node, ast.For):
            found += faults_of_loop(node)
        faults += [f"{fault} (line {getattr(node, 'lineno', 1)})" for fault in found]
    return faults


def faults_of_tree(tree):
    """What shows only beside other parts of the same file."""
    faults = []
    taken = [node.name for node in ast.walk(tree) if isinstance(node, ast.ClassDef)]
    for node in ast.walk(tree):
        if isinstance(node, ast.ImportFrom):
            taken += [part.asname or part.name for part in node.names]
    for above in ast.walk(tree):
        for node in ast.iter_child_nodes(above):
            if isinstance(node, (ast.Name, ast.arg)) and bound_name(node) in taken:
                faults.append(f"L15 local {bound_name(node)} (line {node.lineno})")
            faults += [f"{fault} (line {node.lineno})" for fault in faults_of_calls(node, above)]
    return faults


def faults_of_code(text, own_methods=()):
    faults = faults_of_tree(ast.parse(text))
    for node in ast.walk(ast.parse(text)):
        found = [] if type(node).__name__ in NODES else [f"L6 or L7 {type(node).__name__}"]
        if isinstance(node, ast.ImportFrom):
            found += faults_of_import(node)
        if isinstance(node, (ast.FunctionDef, ast.ClassDef)):
            found += faults_of_def(node)
        if isinstance(node, ast.Call) and isinstance(node.func, ast.Attribute):
            if node.func.attr not in OWN_METHODS and node.func.attr not in own_methods:
                found.append(f"L25 method {node.func.attr}")
        found += faults_of_names(node) + faults_of_expression(node)
        faults += [f"{fault} (line {getattr(node, 'lineno', 1)})" for fault in found]
    return faults


def methods_of(texts):
    trees = [ast.parse(text) for text in texts]
    classes = [node for tree in trees for node in ast.walk(tree) if isinstance(node, ast.ClassDef)]
    return {part.name for node in classes for part in node.body if isinstance(part, ast.FunctionDef)}


def values_of(texts):
    nodes = [node for text in texts for node in ast.walk(ast.parse(text))]
    return {node.attr for node in nodes if isinstance(node, ast.Attribute) and isinstance(node.ctx, ast.Store)}


def classes_of(texts):
    nodes = [node for text in texts for node in ast.walk(ast.parse(text))]
    return {node.name for node in nodes if isinstance(node, ast.ClassDef)}


def bases_of(texts):
    nodes = [node for text in texts for node in ast.walk(ast.parse(text))]
    return {node.name: [base.id for base in node.bases] for node in nodes if isinstance(node, ast.ClassDef)}


def defined_in(text):
    """The names that a file's top defines itself."""
    names = set()
    for node in ast.parse(text).body:
        if isinstance(node, (ast.FunctionDef, ast.ClassDef)):
            names.add(node.name)
        if isinstance(node, ast.Assign):
            names.add(node.targets[0].id)
    return names


def drawn_from(text):
    return [n.module.split(".")[-1] for n in ast.walk(ast.parse(text)) if isinstance(n, ast.ImportFrom)]


class LanguageTest(unittest.TestCase):
    def setUp(self):
        self.texts = {path.stem: path.read_text(encoding="utf-8") for path in PACKAGE.glob("*.py")}

    def test_files(self):
        for path in PACKAGE.iterdir():
            # Python itself may lay this one down while the tests run.
            if path.name != "__pycache__":
                self.assertRegex(path.name, r"^(__init__|__main__|[a-z][a-z0-9_]*)\.py$")
            self.assertNotIn(path.stem, FILE_NAMES_OUT)
            self.assertFalse(path.stem.startswith("test_") or path.stem in vars(builtins), path.name)
        self.assertIn("__init__", self.texts)
        self.assertEqual(PACKAGE.name, "tankbalance")

    def test_forms(self):
        texts = self.texts.values()
        for name, text in self.texts.items():
            with self.subTest(file=name):
                self.assertEqual(faults_of_forms(text, classes_of(texts), methods_of(texts)), [])

    def test_error_classes_stand_under_value_error(self):
        bases = bases_of(self.texts.values())
        for name, above in bases.items():
            self.assertIn(above, ([], ["ValueError"], ["CellarError"]), name)

    def test_init_binds_no_name_of_a_file(self):
        self.assertEqual(defined_in(self.texts["__init__"]) & set(self.texts), set())
        self.assertEqual(drawn_from(self.texts["__init__"]), [])

    def test_texts_and_code(self):
        own_methods = methods_of(self.texts.values())
        for name, text in self.texts.items():
            with self.subTest(file=name):
                self.assertEqual(faults_of_text(text) + faults_of_code(text, own_methods), [])

    def test_no_name_is_a_method_and_a_value(self):
        texts = self.texts.values()
        self.assertEqual(methods_of(texts) & values_of(texts), set())

    def test_names_are_drawn_from_the_file_that_defines_them(self):
        for name, text in self.texts.items():
            for node in ast.walk(ast.parse(text)):
                if isinstance(node, ast.ImportFrom):
                    defined = defined_in(self.texts[node.module.split(".")[-1]])
                    self.assertEqual({part.name for part in node.names} - defined, set(), name)

    def test_no_two_files_draw_from_one_another(self):
        draws = {name: set(drawn_from(text)) for name, text in self.texts.items()}
        for step in range(len(draws)):
            for name in draws:
                draws[name] = draws[name].union(*[draws[other] for other in draws[name]])
        for name, reached in draws.items():
            self.assertNotIn(name, reached)

    def assert_forms_seen(self):
        wrong = (
            "f()", "x = [1]", "x = {}", "x = f()", "x = 1\nx = 2", "def f():\n    class A:\n        pass",
            "def f():\n    from tankbalance.days import Day", "class A:\n    def f(self):\n        pass\n"
            "    def f(self):\n        pass", "class A:\n    def __eq__(self, other):\n        return True",
            "class A:\n    def __init__(self):\n        return None", "class A:\n    def title(self):\n        pass",
            "def f(a=[]):\n    pass", "def f(a: int):\n    pass", "def f() -> int:\n    pass",
            "def f():\n    raise E", "def f():\n    raise", "def f():\n    try:\n        g()\n    except ValueError:\n"
            "        pass", "def f():\n    try:\n        g()\n    except:\n        pass",
            "def f(a):\n    return f'{a.b}'",
            "def f(a):\n    return f'{a:3}'", "def f(n):\n    return 2 ** n", "def f():\n    return '5 % 3'",
            "def f(a):\n    a.b.c = 1", "def f(a):\n    a.items = 1", "def f(a):\n    a.args = 1",
            "def f():\n    return os", "def f(a):\n    return a.f_back", "def f():\n    return len",
            "def f(a):\n    return sorted(a, key=repr)", "def f():\n    return A", "def f(a):\n    return a.append",
            "def f(a):\n    return a.go", "def f(a):\n    for b in a:\n        a.append(b)",
            "def f(a):\n    for k, b in enumerate(a):\n        a[k] = b", "def f(d):\n    for k, b in d.items():\n"
            "        d.pop(k)", "def f():\n    return g(lambda a: 1, lambda a: 2)", "def f():\n    return '\\x41'",
        )
        for text in wrong:
            with self.subTest(text=text):
                self.assertNotEqual(faults_of_forms(text, ["A"], ["go"]), [])
        right = (
            "x = 1", "x = (1, ('a', None))", "x = -1", "def f(a=1, b=None):\n    pass", "def f():\n    raise E('a')",
            "def f():\n    try:\n        g()\n    except E as e:\n        raise F('b') from e", "class A(B):\n    pass",
            "def f(a):\n    return f'{a} {a!r}'", "def f(n):\n    return n ** 2", "def f(a):\n    a.b = 1",
            "def f(a):\n    return sorted(a, key=len)", "def f():\n    return A()", "def f(a):\n    a.append(a.go())",
            "def f(a):\n    return isinstance(a, A) or isinstance(a, (int, A))", "def f(a):\n    return a + '\\n'",
            "def f(a):\n    for b in list(a):\n        a.remove(b)",
            "def f(a):\n    return g(lambda a: 1, lambda b: 2)",
        )
        for text in right:
            with self.subTest(text=text):
                self.assertEqual(faults_of_forms(text, ["A"], ["go"]), [])

    def test_the_walk_sees_faults(self):
        wrong = (
            "import os", "from random import choice", "from tankbalance.places import *", "x = 1.5", "x = 3 / 2",
            "def f(*a):\n    pass", "def f(_a):\n    pass", "def f(sum):\n    pass", "a = b = 1", "x = {1: 2 for y in z}",
            "x = [a for b in c for a in b]", "x = (a for a in b)", "if x is y:\n    pass", "x.sort()", "map(f, x)",
            "class A:\n    x = 1", "for a in b:\n    pass\nelse:\n    pass", "with a:\n    pass", "assert x", "x.y == 1",
            "try:\n    pass\nfinally:\n    pass", "def f():\n    yield 1", "x = range(3)", "x = d.items()",
            "f(reversed(x))", "min(zip(a, b), 3)", "x = set(y)", "for a in set(b):\n    f(a)", "x = {1, 2}",
            "sorted(set(x), key=f)", "x = int(y, base=2)", "class A:\n    pass\ndef f(A):\n    pass",
            "from tankbalance.ties import path_of\ndef f():\n    path_of = 1", "def f():\n" + "    f()\n" * 40,
        )
        for text in wrong:
            with self.subTest(text=text):
                self.assertNotEqual(faults_of_code(text), [])
        right = (
            "x = tuple(reversed(y))", "x = [a for a in range(3)]", "for a, b in d.items():\n    f(a)",
            "x = sorted(d.items())", "x = a in set(b)", "x = len(set(a) - set(b))", "x = sorted(set(a))",
            "x = sorted(a, key=f, reverse=True)", "x = set(a) == set(b)", "x = max(d.values())",
        )
        for text in right:
            with self.subTest(text=text):
                self.assertEqual(faults_of_code(text), [])
        self.assert_forms_seen()
        for text in ("x" * 121, "a\tb", "caf\u00e9", "# a type", "# my_dataclass", "a\n" * 401):
            with self.subTest(text=text):
                self.assertNotEqual(faults_of_text(text), [])


if __name__ == "__main__":
    unittest.main()
