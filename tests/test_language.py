"""Holds the package's files against those rules of the language part that a look at the code's tree can tell."""

import ast
import builtins
import re
import unittest
from pathlib import Path

PACKAGE = Path(__file__).resolve().parent.parent / "quits"

OWN_NAMES = set(
    "len range enumerate zip min max sum abs sorted reversed int str bool list tuple dict set frozenset isinstance ord "
    "repr any all divmod Exception ValueError TypeError KeyError IndexError LookupError ZeroDivisionError "
    "ArithmeticError OverflowError RuntimeError NotImplementedError AttributeError StopIteration".split()
)
OWN_METHODS = set(
    "append clear copy count endswith extend find get index insert isalnum isalpha isdigit islower isspace isupper "
    "items join keys ljust lower lstrip partition pop remove replace reverse rfind rjust rpartition rsplit rstrip "
    "setdefault split splitlines startswith strip update upper values zfill bit_length".split()
)
UNUSED_NAMES = set(
    "attrgetter breakpoint builtins compile copyright credits delattr dir eval exec exit gc getattr globals hasattr "
    "help id importlib license locals methodcaller os quit setattr super type vars sys register mro elements open "
    "input version_info with_traceback add_note".split()
)
UNUSED_WORDS = re.compile(
    r"\b(type|typing|typing_extensions|enum|Enum|IntEnum|StrEnum|Flag|IntFlag|Generic|Protocol|ABC|ABCMeta|namedtuple"
    r"|NamedTuple|TypedDict|TYPE_CHECKING|abstractmethod)\b|dataclass|overload|contextmanager"
)
CHANGES = set("append clear extend insert pop remove reverse setdefault update".split())
KEYWORDS = {
    "sorted": ("key", "reverse"), "min": ("key", "default"), "max": ("key", "default"), "sum": ("start",),
    "enumerate": ("start",), "zip": ("strict",),
}
SPECIAL_METHODS = set("__init__ __eq__ __repr__ __str__ __len__".split())
PLAIN_NAME = re.compile(r"[A-Za-z][A-Za-z0-9_]*\Z")
FILE_NAME = re.compile(r"([a-z][a-z0-9_]*|__init__)\.py\Z")
BAD_FILE = re.compile(r"(tests?|testing|test_.*|site|conftest|sitecustomize|usercustomize)\Z")

STATEMENTS = (
    ast.Assign, ast.AugAssign, ast.If, ast.While, ast.For, ast.Return, ast.Break, ast.Continue, ast.Pass, ast.Raise,
    ast.Try, ast.Expr, ast.FunctionDef, ast.ClassDef, ast.ImportFrom,
)
EXPRESSIONS = (
    ast.BoolOp, ast.BinOp, ast.UnaryOp, ast.Lambda, ast.IfExp, ast.Dict, ast.Set, ast.ListComp, ast.Compare, ast.Call,
    ast.FormattedValue, ast.JoinedStr, ast.Constant, ast.Attribute, ast.Subscript, ast.Name, ast.List, ast.Tuple,
    ast.Slice,
)


def is_docstring(node):
    return isinstance(node, ast.Expr) and isinstance(node.value, ast.Constant) and isinstance(node.value.value, str)


def text_faults(text):
    for row, line in enumerate(text.split("\n"), start=1):
        if len(line) > 120:
            yield row, "L10 a line of more than 120 characters"
        if re.search(r"[^ -~]", line):
            yield row, "L14 a sign that is not from the blank to ~"
        if UNUSED_WORDS.search(line):
            yield row, "L17 a word that stands nowhere"
    if text.count("\n") > 400:
        yield 400, "L10 a file of more than 400 lines"


def top_faults(tree):
    bound = []
    for place, node in enumerate(tree.body):
        if isinstance(node, ast.Assign) and isinstance(node.targets[0], ast.Name):
            bound.append(node.targets[0].id)
        elif isinstance(node, (ast.FunctionDef, ast.ClassDef)):
            bound.append(node.name)
        elif isinstance(node, ast.ImportFrom):
            bound.extend(alias.asname or alias.name for alias in node.names)
        elif not (place == 0 and is_docstring(node)):
            yield node.lineno, "L3 a statement that the top of a file doesn't hold"
    for name in set(bound):
        if bound.count(name) > 1:
            yield 1, f"L15 {name} is bound twice at the top"


def import_faults(tree):
    for node in ast.walk(tree):
        if isinstance(node, ast.ImportFrom):
            own = node.level == 0 and (node.module or "").startswith("quits.")
            if not own and node.module != "__future__" or node not in tree.body:
                yield node.lineno, "L2 an import of something else, or not at the top"
            if any(alias.name == "*" for alias in node.names):
                yield node.lineno, "L2 an import of all names"


def statement_faults(node):
    if isinstance(node, ast.FunctionDef) and is_docstring(node.body[0]):
        yield "L6 a text by itself"
    if isinstance(node, ast.stmt) and not isinstance(node, STATEMENTS):
        yield "L6 " + type(node).__name__
    if isinstance(node, ast.Assign) and len(node.targets) != 1:
        yield "L6 several targets"
    if isinstance(node, (ast.For, ast.While)) and node.orelse:
        yield "L6 else behind a loop"
    if isinstance(node, ast.Try) and node.finalbody:
        yield "L6 finally"
    if isinstance(node, ast.ExceptHandler):
        if node.type is None or ast.unparse(node.type) in ("Exception", "TypeError"):
            yield "L19 an error taken that is not to be taken"
    if isinstance(node, ast.Raise) and not isinstance(node.exc, ast.Call):
        yield "L19 an error that is not made on the spot"


def definition_faults(node):
    if isinstance(node, ast.FunctionDef):
        if node.end_lineno - node.lineno + 1 > 40:
            yield "L10 a function of more than 40 lines"
        if node.decorator_list:
            yield "L4 a decorator"
    if isinstance(node, ast.arguments) and (node.vararg or node.kwarg or node.kwonlyargs or node.posonlyargs):
        yield "L4 parameters that are not plain"
    if isinstance(node, ast.ClassDef):
        if node.decorator_list or node.keywords or len(node.bases) > 1:
            yield "L5 a class that is not plain"
        if any(not isinstance(part, (ast.FunctionDef, ast.Pass)) and not is_docstring(part) for part in node.body):
            yield "L5 a value in a class"


def expression_faults(node):
    if isinstance(node, ast.expr) and not isinstance(node, EXPRESSIONS):
        yield "L7 " + type(node).__name__
    if isinstance(node, ast.Constant) and not isinstance(node.value, (int, str, bool, type(None))):
        yield "L7 a value of another kind"
    if isinstance(node, ast.Constant) and isinstance(node.value, str) and "%" in node.value:
        yield "L27 the sign of a remainder in a text"
    if isinstance(node, (ast.Div, ast.MatMult)):
        yield "L7 an operator that is not used"
    if isinstance(node, ast.ListComp) and (len(node.generators) > 1 or len(node.generators[0].ifs) > 1):
        yield "L7 a comprehension with more than one for or if"
    if isinstance(node, ast.FormattedValue) and (not isinstance(node.value, ast.Name) or node.format_spec):
        yield "L7 an f-string with more than a name"
    if isinstance(node, ast.BinOp) and isinstance(node.op, ast.Pow):
        if not (isinstance(node.right, ast.Constant) and node.right.value in range(65)):
            yield "L27 an exponent that is not written"
    if isinstance(node, ast.Compare) and any(isinstance(sign, (ast.Is, ast.IsNot)) for sign in node.ops):
        if not any(isinstance(side, ast.Constant) for side in [node.left] + node.comparators):
            yield "L20 is beside something else"


def name_faults(node, methods):
    if isinstance(node, ast.Name):
        names = [node.id]
        if isinstance(node.ctx, ast.Store) and hasattr(builtins, node.id):
            yield "L15 a name of Python's own bound: " + node.id
        if hasattr(builtins, node.id) and node.id not in OWN_NAMES:
            yield "L8 " + node.id
    elif isinstance(node, ast.arg):
        names = [node.arg]
        if hasattr(builtins, node.arg):
            yield "L15 a name of Python's own bound: " + node.arg
    elif isinstance(node, (ast.FunctionDef, ast.ClassDef)):
        names = [node.name]
    elif isinstance(node, ast.Attribute):
        names = [node.attr]
    else:
        names = []
    for name in names:
        if not PLAIN_NAME.match(name) and name not in SPECIAL_METHODS:
            yield "L12 " + name
        if name in UNUSED_NAMES:
            yield "L17 " + name
    if isinstance(node, ast.Call) and isinstance(node.func, ast.Attribute):
        if node.func.attr not in OWN_METHODS and node.func.attr not in methods:
            yield "L25 " + node.func.attr


def bound_locals(function):
    for node in ast.walk(function):
        if isinstance(node, ast.arg):
            yield node.lineno, node.arg
        elif isinstance(node, ast.Name) and isinstance(node.ctx, ast.Store):
            yield node.lineno, node.id


def local_faults(tree):
    taken = {node.name for node in tree.body if isinstance(node, ast.ClassDef)}
    for node in tree.body:
        if isinstance(node, ast.ImportFrom):
            taken |= {alias.asname or alias.name for alias in node.names}
    functions = [node for node in ast.walk(tree) if isinstance(node, (ast.FunctionDef, ast.Lambda))]
    for function in functions:
        for row, name in bound_locals(function):
            if name in taken:
                yield row, "L15 a local called like a class or an import: " + name


def is_walk(node):
    if not isinstance(node, ast.Call):
        return False
    if isinstance(node.func, ast.Attribute):
        return node.func.attr in ("items", "keys", "values")
    return isinstance(node.func, ast.Name) and node.func.id in ("zip", "enumerate", "reversed", "range")


def walk_faults(tree):
    allowed = set()
    for node in ast.walk(tree):
        if isinstance(node, (ast.For, ast.comprehension)):
            allowed.add(node.iter)
        elif isinstance(node, ast.Call) and isinstance(node.func, ast.Name) and node.args:
            if node.func.id in "list tuple dict sorted sum any all enumerate zip min max".split():
                allowed.add(node.args[0])
    for node in ast.walk(tree):
        if is_walk(node) and node not in allowed:
            yield node.lineno, "L23 a walk that is kept"
        if isinstance(node, ast.For):
            inner = node.iter
            if is_walk(inner) and isinstance(inner.func, ast.Name) and inner.args:
                inner = inner.args[0]
            yield from change_faults(node, ast.unparse(inner))


def change_faults(loop, walked):
    for node in ast.walk(ast.Module(loop.body, [])):
        changed = None
        if isinstance(node, ast.Subscript) and isinstance(node.ctx, ast.Store):
            changed = node.value
        elif isinstance(node, ast.Call) and isinstance(node.func, ast.Attribute) and node.func.attr in CHANGES:
            changed = node.func.value
        if changed is not None and ast.unparse(changed) == walked:
            yield node.lineno, "L23 what a loop walks is changed in it"


def call_faults(node):
    if isinstance(node, (ast.Set, ast.SetComp)):
        yield "L24 a set"
    if isinstance(node, ast.Call) and isinstance(node.func, ast.Name) and node.func.id in ("set", "frozenset"):
        yield "L24 a set"
    if isinstance(node, ast.Call) and node.keywords:
        name = node.func.id if isinstance(node.func, ast.Name) else ""
        for keyword in node.keywords:
            if hasattr(builtins, name) and keyword.arg not in KEYWORDS.get(name, ()):
                yield "L22 a keyword at " + name
    if isinstance(node, ast.FunctionDef) and (node.returns or any(arg.annotation for arg in node.args.args)):
        yield "L21 an annotation"


def values_of(tree):
    return {
        node.attr for node in ast.walk(tree) if isinstance(node, ast.Attribute) and isinstance(node.ctx, ast.Store)
    }


def methods_of(tree):
    classes = [node for node in tree.body if isinstance(node, ast.ClassDef)]
    return {part.name for made in classes for part in made.body if isinstance(part, ast.FunctionDef)}


def faults(text, methods=()):
    tree = ast.parse(text)
    found = list(text_faults(text)) + list(top_faults(tree)) + list(import_faults(tree))
    found += list(local_faults(tree)) + list(walk_faults(tree))
    for node in ast.walk(tree):
        told = list(statement_faults(node)) + list(definition_faults(node)) + list(expression_faults(node))
        told += list(name_faults(node, methods)) + list(call_faults(node))
        found.extend((getattr(node, "lineno", 0), words) for words in told)
    return found


def drawn_from(tree):
    own = [node for node in tree.body if isinstance(node, ast.ImportFrom) and node.module != "__future__"]
    return {node.module.split(".", 1)[1]: [alias.name for alias in node.names] for node in own}


def defined_in(tree):
    names = {node.name for node in tree.body if isinstance(node, (ast.FunctionDef, ast.ClassDef))}
    return names | {node.targets[0].id for node in tree.body if isinstance(node, ast.Assign)}


class PackageTest(unittest.TestCase):
    def setUp(self):
        self.texts = {path.stem: path.read_text(encoding="utf-8") for path in sorted(PACKAGE.glob("*.py"))}
        self.trees = {name: ast.parse(text) for name, text in self.texts.items()}

    def test_the_folder_holds_plain_files_alone(self):
        for path in PACKAGE.iterdir():
            if path.name != "__pycache__":
                with self.subTest(path.name):
                    self.assertRegex(path.name, FILE_NAME)
                    self.assertNotRegex(path.stem, BAD_FILE)
                    self.assertTrue(path.stem == "__init__" or not hasattr(builtins, path.stem))
        self.assertIn("__init__", self.texts)

    def test_the_files_keep_to_the_rules(self):
        methods = set().union(*(methods_of(tree) for tree in self.trees.values()))
        for name, text in self.texts.items():
            with self.subTest(name):
                self.assertEqual(faults(text, methods), [])

    def test_no_name_is_a_method_and_a_value(self):
        methods = set().union(*(methods_of(tree) for tree in self.trees.values()))
        values = set().union(*(values_of(tree) for tree in self.trees.values()))
        self.assertEqual(methods & values, set())
        own = {name for kind in (str, int, list, tuple, dict, set, frozenset, bytes) for name in dir(kind)}
        self.assertEqual((methods - SPECIAL_METHODS) & own, set())
        self.assertEqual(values & own, set())

    def test_names_are_drawn_from_where_they_are_defined(self):
        for name, tree in self.trees.items():
            for source, names in drawn_from(tree).items():
                with self.subTest(name, source=source):
                    self.assertLessEqual(set(names), defined_in(self.trees[source]))

    def test_no_two_files_draw_from_one_another(self):
        left = {name: set(drawn_from(tree)) for name, tree in self.trees.items()}
        while left:
            ready = [name for name in left if not left[name] & set(left)]
            self.assertTrue(ready, f"a ring among {sorted(left)}")
            left = {name: sources for name, sources in left.items() if name not in ready}


class RulesTest(unittest.TestCase):
    def test_code_within_the_rules(self):
        text = '"""Words."""\n\nFEW = (1, 2)\n\n\ndef add(one, other=0):\n    return [k for k in (one, other) if k > 0]\n'
        self.assertEqual(faults(text), [])

    def test_code_outside_the_rules(self):
        for rule, text in (
            ("L2", "from math import gcd\n"),
            ("L2", "from quits.errors import *\n"),
            ("L3", "for k in (1, 2):\n    pass\n"),
            ("L4", "def f(*some):\n    return some\n"),
            ("L5", "class A:\n    k = 1\n"),
            ("L6", "def f(x):\n    assert x\n"),
            ("L6", "def f(x):\n    a = b = x\n    return a + b\n"),
            ("L6", "def f(x):\n    'words'\n    return x\n"),
            ("L7", "def f(x):\n    return x / 2\n"),
            ("L7", "def f(x):\n    return {k: 1 for k in x}\n"),
            ("L8", "def f(x):\n    return hash(x)\n"),
            ("L10", "K = '" + "a" * 120 + "'\n"),
            ("L12", "def f(x):\n    _k = x\n    return x\n"),
            ("L14", "K = '\u00e4'\n"),
            ("L15", "def f(sum):\n    return sum\n"),
            ("L15", "K = 1\nK = 2\n"),
            ("L15", "from quits.errors import NoPart\n\n\ndef f(NoPart):\n    return NoPart\n"),
            ("L17", "# a type\n"),
            ("L19", "def f(x):\n    raise x\n"),
            ("L20", "def f(x, y):\n    return x is y\n"),
            ("L21", "def f(x: int):\n    return x\n"),
            ("L22", "def f(x):\n    return int(x, base=2)\n"),
            ("L23", "def f(x):\n    y = range(x)\n    return y\n"),
            ("L23", "def f(x):\n    for k, y in enumerate(x):\n        x[k] = y\n"),
            ("L23", "def f(x):\n    for y in x:\n        x.append(y)\n"),
            ("L24", "def f(x):\n    return set(x)\n"),
            ("L25", "def f(x):\n    return x.sort()\n"),
            ("L27", "def f(n):\n    return 2 ** n\n"),
        ):
            with self.subTest(rule, text=text):
                self.assertIn(rule, [words.split()[0] for row, words in faults(text)])


if __name__ == "__main__":
    unittest.main()
