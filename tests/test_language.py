"""Holds the package's files to those rules of its language that can be seen row by row."""

import ast
import builtins
import re
import unittest
from pathlib import Path

PACKAGE = Path(__file__).resolve().parent.parent / "curveseat"

ALLOWED = set(
    "len range enumerate zip min max sum abs sorted reversed int str bool bytes list tuple dict set frozenset "
    "isinstance ord repr any all divmod Exception ValueError TypeError KeyError IndexError LookupError "
    "ZeroDivisionError ArithmeticError OverflowError RuntimeError NotImplementedError AttributeError "
    "StopIteration".split()
)
METHODS = {"__init__", "__eq__", "__repr__", "__str__", "__len__"}
WORDS = re.compile(
    r"\b(type|typing|typing_extensions|enum|Enum|IntEnum|StrEnum|Flag|IntFlag|Generic|Protocol|ABC|ABCMeta|"
    r"namedtuple|NamedTuple|TypedDict|TYPE_CHECKING|abstractmethod)\b|dataclass|overload|contextmanager"
)
UNUSED = set(
    "register mro elements open input version_info with_traceback add_note attrgetter breakpoint builtins compile "
    "copyright credits delattr dir eval exec exit gc getattr globals hasattr help id importlib license locals "
    "methodcaller os quit setattr super vars sys chr print".split()
)
BARRED = (
    ast.With, ast.AsyncWith, ast.Match, ast.Global, ast.Nonlocal, ast.Yield, ast.YieldFrom, ast.AsyncFunctionDef,
    ast.AsyncFor, ast.Await, ast.GeneratorExp, ast.NamedExpr, ast.Div, ast.MatMult, ast.Import,
)


def faults(source):
    """The rules, by their numbers, that a file's text breaks."""
    tree = ast.parse(source)
    found = set()
    for check in (check_signs, check_size):
        found |= check(source, tree)
    found |= check_top(tree)
    for node in ast.walk(tree):
        for check in (check_import, check_def, check_class, check_statement, check_value, check_names):
            found |= check(node)
    return found


def check_signs(source, tree):
    found = set()
    if any(sign != "\n" and not " " <= sign <= "~" for sign in source):
        found.add("L14")
    if WORDS.search(source):
        found.add("L17")
    return found


def check_size(source, tree):
    rows = source.split("\n")
    if len(rows) > 401 or any(len(row) > 120 or "\t" in row for row in rows):
        return {"L10"}
    defs = [node for node in ast.walk(tree) if isinstance(node, ast.FunctionDef)]
    return {"L10"} if any(node.end_lineno - node.lineno >= 40 for node in defs) else set()


def check_top(tree):
    found = set()
    bound = []
    for at, node in enumerate(tree.body):
        if isinstance(node, (ast.FunctionDef, ast.ClassDef)):
            bound.append(node.name)
        elif isinstance(node, ast.ImportFrom):
            bound += [one.asname or one.name for one in node.names]
        elif isinstance(node, ast.Assign) and len(node.targets) == 1 and isinstance(node.targets[0], ast.Name):
            bound.append(node.targets[0].id)
        elif not (at == 0 and isinstance(node, ast.Expr) and isinstance(node.value, ast.Constant)):
            found.add("L3")
    if len(bound) != len(set(bound)):
        found.add("L15")
    return found | check_locals(tree)


def check_locals(tree):
    taken = {node.name for node in tree.body if isinstance(node, ast.ClassDef)} | set(dir(builtins))
    taken |= {one.asname or one.name for node in tree.body if isinstance(node, ast.ImportFrom) for one in node.names}
    given = [node.arg for node in ast.walk(tree) if isinstance(node, ast.arg)]
    given += [node.id for node in ast.walk(tree) if isinstance(node, ast.Name) and not isinstance(node.ctx, ast.Load)]
    return {"L15"} if taken & set(given) else set()


def check_import(node):
    if not isinstance(node, ast.ImportFrom) or (node.module or "") == "__future__":
        return set()
    own = node.level == 0 and re.fullmatch(r"curveseat\.[a-z0-9_]+", node.module or "")
    return set() if own and all(one.name != "*" for one in node.names) else {"L2"}


def check_def(node):
    if not isinstance(node, (ast.FunctionDef, ast.Lambda)):
        return set()
    taken = node.args
    plain = not (taken.vararg or taken.kwarg or taken.posonlyargs or getattr(node, "decorator_list", None))
    return set() if plain else {"L4"}


def check_class(node):
    if not isinstance(node, ast.ClassDef):
        return set()
    rows = [row for row in node.body if not isinstance(row, (ast.FunctionDef, ast.Pass))]
    words = [row for row in rows if isinstance(row, ast.Expr) and isinstance(row.value, ast.Constant)]
    plain = len(node.bases) <= 1 and not node.keywords and not node.decorator_list and len(rows) == len(words) <= 1
    return set() if plain else {"L5"}


def check_statement(node):
    found = set()
    if isinstance(node, BARRED):
        found.add("L6")
    if isinstance(node, (ast.For, ast.While)) and node.orelse:
        found.add("L6")
    if isinstance(node, ast.ExceptHandler) and node.type is None:
        found.add("L6")
    return found


def check_value(node):
    found = set()
    if isinstance(node, ast.Constant) and isinstance(node.value, (float, complex)):
        found.add("L7")
    if isinstance(node, ast.Constant) and isinstance(node.value, str) and "%" in node.value:
        found.add("L27")
    if isinstance(node, ast.FormattedValue) and node.format_spec is not None:
        found.add("L7")
    if isinstance(node, ast.BinOp) and isinstance(node.op, ast.Pow):
        by = node.right.value if isinstance(node.right, ast.Constant) else None
        if by not in range(65):
            found.add("L27")
    if isinstance(node, ast.Compare) and any(isinstance(sign, (ast.Is, ast.IsNot)) for sign in node.ops):
        beside = [node.left] + node.comparators
        if not any(isinstance(one, ast.Constant) and one.value in (None, True, False) for one in beside):
            found.add("L20")
    return found


def check_names(node):
    found = set()
    name = getattr(node, "name", None) or getattr(node, "id", None) or getattr(node, "arg", None)
    name = getattr(node, "attr", None) or name
    if not isinstance(name, str) or isinstance(node, ast.alias):
        return found
    if name in UNUSED:
        found.add("L17")
    if not re.fullmatch("[A-Za-z][A-Za-z0-9_]*", name) and name not in METHODS:
        found.add("L12")
    if isinstance(node, ast.Name) and name in dir(builtins) and name not in ALLOWED:
        found.add("L8")
    return found


# Methods of Python's own that the program may call; more are allowed, but not needed.
OWN_METHODS = set(
    "append clear copy count endswith extend find get index insert isalnum isalpha isdigit islower isspace isupper "
    "items join keys ljust lower lstrip partition pop remove replace reverse rfind rjust rpartition rsplit rstrip "
    "setdefault split splitlines startswith strip update upper values zfill bit_length add discard".split()
)


def package_faults(sources):
    """The rules, by their numbers, that files break together: they speak of methods and values of objects."""
    trees = [ast.parse(source) for source in sources]
    nodes = [node for tree in trees for node in ast.walk(tree)]
    classes = [node for node in nodes if isinstance(node, ast.ClassDef)]
    methods = {row.name for node in classes for row in node.body if isinstance(row, ast.FunctionDef)}
    asked = [node for node in nodes if isinstance(node, ast.Attribute)]
    values = {node.attr for node in asked if isinstance(node.ctx, ast.Store)}
    calls = {node.func.attr for node in nodes if isinstance(node, ast.Call) and isinstance(node.func, ast.Attribute)}
    read = {node.attr for node in asked if isinstance(node.ctx, ast.Load)}
    found = set()
    if methods & values or not read - calls <= values:
        found.add("L18")
    if not calls <= methods | OWN_METHODS:
        found.add("L25")
    if any(node.keywords for node in nodes if isinstance(node, ast.Call) and isinstance(node.func, ast.Attribute)):
        found.add("L22")
    return found


BROKEN_TOGETHER = (
    ("L18", "class A:\n    def __init__(self):\n        self.many = 1\n", "class B:\n    def many(self):\n        pass"),
    ("L18", "def f(a):\n    return a.many", ""), ("L25", "def f(a):\n    return a.isprime()", ""),
    ("L22", "def f(a):\n    return a.split(sep=',')", ""),
)
BROKEN = (
    ("L2", "from math import gcd"), ("L2", "from curveseat.shares import *"), ("L2", "from .shares import share"),
    ("L3", "for k in range(3):\n    pass"), ("L4", "def f(*xs):\n    return xs"), ("L4", "def f(a, /):\n    return a"),
    ("L5", "class A:\n    many = 1"), ("L5", "class A(B, C):\n    pass"), ("L6", "import math"),
    ("L6", "def f(a):\n    yield a"), ("L6", "def f(a):\n    return a / 2"),
    ("L6", "def f(xs):\n    return (x for x in xs)"),
    ("L6", "def f(xs):\n    for x in xs:\n        pass\n    else:\n        pass"),
    ("L7", "HALF = 0.5"), ("L7", "def f(a):\n    return f'{a:3}'"), ("L8", "def f(a):\n    return pow(a, 2)"),
    ("L10", "def f(a):\n" + "    a = a + 1\n" * 40), ("L10", "A = 1  # " + "a" * 120), ("L12", "def f():\n    _ = 1"),
    ("L14", "A = '\u00e4'"), ("L15", "A = 1\nA = 2"), ("L15", "def f(sum):\n    return sum"),
    ("L15", "from curveseat.shares import share\n\n\ndef f(share):\n    return share"),
    ("L17", "# a type"), ("L17", "def f(a):\n    return getattr(a, 'b')"),
    ("L20", "def f(a, b):\n    return a is b"), ("L27", "A = '%'"), ("L27", "def f(n):\n    return 2 ** n"),
)


class Language(unittest.TestCase):
    def test_each_file_keeps_the_rules(self):
        files = sorted(PACKAGE.glob("*.py"))
        self.assertGreater(len(files), 0)
        for file in files:
            with self.subTest(file.name):
                self.assertEqual(sorted(faults(file.read_text(encoding="utf-8"))), [])

    def test_package_holds_plain_files_alone(self):
        names = [file.name for file in PACKAGE.iterdir() if file.name != "__pycache__"]
        self.assertIn("__init__.py", names)
        for name in names:
            self.assertRegex(name, r"^(__init__|[a-z][a-z0-9_]*)\.py$")

    def test_names_are_drawn_from_the_file_that_defines_them(self):
        trees = {file.stem: ast.parse(file.read_text(encoding="utf-8")) for file in PACKAGE.glob("*.py")}
        for stem, tree in trees.items():
            for node in tree.body:
                if isinstance(node, ast.ImportFrom):
                    source = trees[node.module.split(".")[-1]]
                    defined = [row.name for row in source.body if isinstance(row, (ast.FunctionDef, ast.ClassDef))]
                    defined += [row.targets[0].id for row in source.body if isinstance(row, ast.Assign)]
                    for one in node.names:
                        self.assertIn(one.name, defined, stem)

    def test_files_together_keep_the_rules(self):
        sources = [file.read_text(encoding="utf-8") for file in sorted(PACKAGE.glob("*.py"))]
        self.assertEqual(sorted(package_faults(sources)), [])
        for rule, *broken in BROKEN_TOGETHER:
            with self.subTest(rule=rule, broken=broken):
                self.assertIn(rule, package_faults(broken))

    def test_broken_rules_are_seen(self):
        for rule, source in BROKEN:
            with self.subTest(rule=rule, source=source):
                self.assertIn(rule, faults(source))


if __name__ == "__main__":
    unittest.main()
