"""The package's files keep to the part of Python that the program is written in.

What can be read off a file's tree and signs is looked at here, with the rule's number.
"""

import ast
import builtins
import re
import unittest
from pathlib import Path

PACKAGE = Path(__file__).resolve().parent.parent / "ordersknown"

# L6 and L7: what may stand in a file's tree at all.
NODES = set("""
    Module FunctionDef ClassDef Lambda arguments arg Assign AugAssign If While For Return Break Continue Pass Raise Try
    ExceptHandler Expr ImportFrom alias Constant Name Attribute Subscript Slice Call keyword List Tuple Dict Set
    ListComp comprehension IfExp BoolOp And Or UnaryOp Not USub UAdd Invert BinOp Add Sub Mult FloorDiv Mod Pow BitAnd
    BitOr BitXor LShift RShift Compare Eq NotEq Lt LtE Gt GtE Is IsNot In NotIn JoinedStr FormattedValue Load Store
    """.split())
# L8
OWN_OF_PYTHON = set("""
    len range enumerate zip min max sum abs sorted reversed int str bool list tuple dict set frozenset isinstance ord
    repr any all divmod Exception ValueError TypeError KeyError IndexError LookupError ZeroDivisionError
    ArithmeticError OverflowError RuntimeError NotImplementedError AttributeError StopIteration
    """.split())
# L5
TWO_UNDERSCORES = {"__init__", "__eq__", "__repr__", "__str__", "__len__"}
# L17
WORDS = re.compile(
    r"\b(type|typing|typing_extensions|enum|Enum|IntEnum|StrEnum|Flag|IntFlag|Generic|Protocol|ABC|ABCMeta|namedtuple"
    r"|NamedTuple|TypedDict|TYPE_CHECKING|abstractmethod)\b|dataclass|overload|contextmanager")
# L25
METHODS = set("""
    append clear copy count endswith extend find get index insert isalnum isalpha isdigit islower isspace isupper items
    join keys ljust lower lstrip partition pop remove replace reverse rfind rjust rpartition rsplit rstrip setdefault
    split splitlines startswith strip update upper values zfill bit_length
    """.split())
TAKEN = set().union(*[dir(kind) for kind in (str, int, list, dict, set, bytes, tuple)])


def own_methods(trees):
    return {d.name for tree in trees for c in tree.body if isinstance(c, ast.ClassDef)
            for d in c.body if isinstance(d, ast.FunctionDef)}


def faults_of_signs(text):
    """L10, L14, L17."""
    lines = text.split("\n")
    if len(lines) > 401:
        yield "L10", len(lines)
    for k, line in enumerate(lines, start=1):
        if len(line) > 120:
            yield "L10", k
        if not all(" " <= sign <= "~" for sign in line):
            yield "L14", k
        if WORDS.search(line):
            yield "L17", k


def faults_of_top(tree):
    """L2, L3, L15."""
    bound = []
    for node in tree.body:
        if isinstance(node, ast.ImportFrom):
            bound += [alias.name for alias in node.names]
            if node.level or not node.module.startswith("ordersknown."):
                yield "L2", node.lineno
            if any(alias.name == "*" or alias.asname for alias in node.names):
                yield "L2", node.lineno
        elif isinstance(node, (ast.FunctionDef, ast.ClassDef)):
            bound.append(node.name)
        elif isinstance(node, ast.Assign):
            bound += [target.id for target in node.targets]
        elif not (isinstance(node, ast.Expr) and isinstance(node.value, ast.Constant)):
            yield "L3", node.lineno
    for name in bound:
        if bound.count(name) > 1:
            yield "L15", name


def faults_of_def(node, top):
    """L4, L10, L12, L15, L21."""
    if node.end_lineno - node.lineno + 1 > 40:
        yield "L10", node.lineno
    args = node.args
    if args.vararg or args.kwarg or args.kwonlyargs or args.posonlyargs or node.decorator_list:
        yield "L4", node.lineno
    if node.returns or any(arg.annotation for arg in args.args):
        yield "L21", node.lineno
    if node.name.startswith("_") and node.name not in TWO_UNDERSCORES:
        yield "L12", node.lineno
    stored = {n.id for n in ast.walk(node) if isinstance(n, ast.Name) and isinstance(n.ctx, ast.Store)}
    for name in stored | {arg.arg for arg in args.args}:
        if name in top or hasattr(builtins, name):
            yield "L15", node.lineno
        if name.startswith("_"):
            yield "L12", node.lineno


def faults_of_node(node, methods):
    """L6 to L8, L18, L20, L24 to L26."""
    line = getattr(node, "lineno", 0)
    if type(node).__name__ not in NODES:
        yield "L6 or L7", line
    if isinstance(node, ast.Constant) and not isinstance(node.value, (int, str, type(None))):
        yield "L7", line
    if isinstance(node, ast.Assign) and (len(node.targets) != 1 or isinstance(node.targets[0], ast.Tuple)):
        yield "L6", line
    if isinstance(node, (ast.While, ast.For)) and node.orelse:
        yield "L6", line
    if isinstance(node, ast.Name) and hasattr(builtins, node.id) and node.id not in OWN_OF_PYTHON:
        yield "L8", line
    if isinstance(node, ast.Call) and isinstance(node.func, ast.Attribute) and node.func.attr not in methods | METHODS:
        yield "L25", line
    if isinstance(node, ast.Attribute) and isinstance(node.ctx, ast.Store) and node.attr in TAKEN | methods:
        yield "L18 or L26", line
    if isinstance(node, ast.Compare) and any(isinstance(op, (ast.Is, ast.IsNot)) for op in node.ops):
        if not isinstance(node.comparators[0], ast.Constant):
            yield "L20", line
    if isinstance(node, ast.Call) and isinstance(node.func, ast.Name) and node.func.id in ("set", "frozenset"):
        yield "L24", line


def faults_of_file(text, methods):
    tree = ast.parse(text)
    faults = list(faults_of_signs(text)) + list(faults_of_top(tree))
    top = {a.name for n in tree.body if isinstance(n, ast.ImportFrom) for a in n.names}
    top |= {n.name for n in tree.body if isinstance(n, ast.ClassDef)}
    for node in ast.walk(tree):
        faults += faults_of_node(node, methods)
        if isinstance(node, ast.FunctionDef):
            faults += faults_of_def(node, top)
    return faults


class Language(unittest.TestCase):
    def test_the_folder_holds_plain_files_alone(self):
        names = [path.name for path in PACKAGE.iterdir() if path.name != "__pycache__"]
        self.assertIn("__init__.py", names)
        for name in names:
            self.assertRegex(name, r"^(__init__|[a-z][a-z0-9_]*)\.py$")
            self.assertNotIn(name, [own + ".py" for own in dir(builtins) if own != "__init__"])

    def test_the_files_keep_to_the_rules(self):
        texts = {path.name: path.read_text(encoding="utf-8") for path in sorted(PACKAGE.glob("*.py"))}
        methods = own_methods([ast.parse(text) for text in texts.values()])
        for name, text in texts.items():
            self.assertEqual(faults_of_file(text, methods), [], name)

    def test_no_two_files_draw_from_one_another(self):
        drawn = {path.stem: {node.module.split(".")[1] for node in ast.parse(path.read_text(encoding="utf-8")).body
                             if isinstance(node, ast.ImportFrom)} for path in PACKAGE.glob("*.py")}
        while drawn:
            free = [name for name, others in drawn.items() if not others & set(drawn)]
            self.assertNotEqual(free, [], drawn)
            drawn = {name: others for name, others in drawn.items() if name not in free}

    def test_a_name_is_imported_from_the_file_that_defines_it(self):
        trees = {path.stem: ast.parse(path.read_text(encoding="utf-8")) for path in PACKAGE.glob("*.py")}
        defined = {name: {node.name for node in tree.body if isinstance(node, (ast.FunctionDef, ast.ClassDef))}
                   | {node.targets[0].id for node in tree.body if isinstance(node, ast.Assign)}
                   for name, tree in trees.items()}
        for name, tree in trees.items():
            for node in [row for row in tree.body if isinstance(row, ast.ImportFrom)]:
                names = {alias.name for alias in node.names}
                self.assertLessEqual(names, defined[node.module.split(".")[1]], name)
                used = {n.id for n in ast.walk(tree) if isinstance(n, ast.Name)}
                self.assertLessEqual(names, used, name)

    def test_a_fault_is_seen(self):
        for text in ("import sys\n", "x = 1\nx = 2\n", "def f(*a):\n    return a\n", "def f(x):\n    del x\n",
                     "def f(x):\n    return x / 2\n", "def f(x):\n    return hash(x)\n", "# type\n", "y = 0.5\n",
                     "def f(x):\n    x.sort()\n", "def f(len):\n    return len\n", "def f(a, b):\n    return a is b\n",
                     "def f(a):\n    return {b for b in a}\n", "def f(a):\n    b, c = a\n",
                     "def f():\n" + "    pass\n" * 40):
            self.assertNotEqual(faults_of_file(text, set()), [], text)
