"""The package's files keep to LANGUAGE.md: a check of a part of its rules.

Not looked at: L9, L11, L13, L19, L21 to L24, L26, L28, and of the others what a walk over the tree shows only with effort.
"""

import ast
import builtins
import pathlib
import re
import unittest

PACKAGE = pathlib.Path(__file__).resolve().parent.parent / "inkdays"

NODES = set("""
Module FunctionDef arguments arg Lambda ClassDef ImportFrom alias Return Assign AugAssign For While If Raise Try
ExceptHandler Expr Pass Break Continue BoolOp And Or BinOp Add Sub Mult FloorDiv Mod Pow LShift RShift BitOr BitXor
BitAnd UnaryOp Invert Not UAdd USub IfExp Dict Set ListComp comprehension Compare Eq NotEq Lt LtE Gt GtE Is IsNot In
NotIn Call keyword JoinedStr FormattedValue Constant Attribute Subscript Slice Name Load Store List Tuple
""".split())
BUILTINS = set("""
len range enumerate zip min max sum abs sorted reversed int str bool list tuple dict set frozenset isinstance ord repr
any all divmod Exception ValueError TypeError KeyError IndexError LookupError ZeroDivisionError ArithmeticError
OverflowError RuntimeError NotImplementedError AttributeError StopIteration
""".split())
METHODS = set("""
append clear copy count endswith extend find get index insert isalnum isalpha isdigit islower isspace isupper items
join keys ljust lower lstrip partition pop remove replace reverse rfind rjust rpartition rsplit rstrip setdefault split
splitlines startswith strip update upper values zfill bit_length __init__
""".split())
DUNDERS = {"__init__", "__eq__", "__repr__", "__str__", "__len__"}
NOT_NAMES = set("""
register mro elements open input version_info with_traceback add_note attrgetter breakpoint builtins compile copyright
credits delattr dir eval exec exit gc getattr globals hasattr help id importlib license locals methodcaller os quit
setattr super type vars sys format format_map
""".split())
NOT_WORDS = re.compile(
    r"\b(type|typing|typing_extensions|enum|Enum|IntEnum|StrEnum|Flag|IntFlag|Generic|Protocol|ABC|ABCMeta|namedtuple"
    r"|NamedTuple|TypedDict|TYPE_CHECKING|abstractmethod)\b|dataclass|overload|contextmanager"
)


def bound_names(tree):
    """Every name that the file gives a meaning to, wherever it does."""
    names = set()
    for node in ast.walk(tree):
        if isinstance(node, (ast.FunctionDef, ast.ClassDef)):
            names.add(node.name)
        elif isinstance(node, ast.arg):
            names.add(node.arg)
        elif isinstance(node, ast.Name) and isinstance(node.ctx, ast.Store):
            names.add(node.id)
        elif isinstance(node, ast.ExceptHandler) and node.name:
            names.add(node.name)
        elif isinstance(node, ast.alias):
            names.add(node.asname or node.name)
    return names


def top_names(tree):
    """The names bound at the file's top, imports left out, as often as they are bound."""
    names = []
    for node in tree.body:
        if isinstance(node, (ast.FunctionDef, ast.ClassDef)):
            names.append(node.name)
        elif isinstance(node, ast.Assign):
            names.extend(target.id for target in node.targets if isinstance(target, ast.Name))
    return names


def text_faults(source):
    lines = source.split("\n")
    if len(lines) > 401:
        yield "L10: more than 400 lines"
    for count, line in enumerate(lines, start=1):
        if len(line) > 120:
            yield f"L10: line {count} is too long"
        if any(not " " <= sign <= "~" for sign in line):
            yield f"L14: line {count} has a sign that is not allowed"
        if NOT_WORDS.search(line):
            yield f"L17: line {count} has a word that is not allowed"


def name_faults(tree):
    own = bound_names(tree)
    for name in own - DUNDERS:
        if name.startswith("_") or not name.isascii():
            yield f"L12: {name}"
        if name in NOT_NAMES:
            yield f"L17: {name}"
    for node in ast.walk(tree):
        if isinstance(node, ast.Name):
            if isinstance(node.ctx, ast.Load) and node.id not in own and node.id not in BUILTINS:
                yield f"L8: {node.id}"
            if isinstance(node.ctx, ast.Store) and hasattr(builtins, node.id):
                yield f"L15: {node.id}"
        if isinstance(node, ast.arg) and hasattr(builtins, node.arg):
            yield f"L15: {node.arg}"
    tops = top_names(tree)
    for name in set(tops):
        if tops.count(name) > 1:
            yield f"L15: {name} is bound twice"


def node_faults(tree):
    for node in ast.walk(tree):
        kind = node.__class__.__name__
        if kind not in NODES:
            yield f"L6, L7: {kind} in line {getattr(node, 'lineno', 0)}"
        if isinstance(node, ast.FunctionDef):
            if node.end_lineno - node.lineno + 1 > 40:
                yield f"L10: {node.name} is too long"
            shape = node.args
            if node.decorator_list or shape.vararg or shape.kwarg or shape.kwonlyargs or shape.posonlyargs:
                yield f"L4: {node.name}"
        if isinstance(node, ast.ClassDef):
            others = [part for part in node.body if not isinstance(part, (ast.FunctionDef, ast.Pass))]
            if node.decorator_list or node.keywords or len(node.bases) > 1 or others:
                yield f"L5: {node.name}"
        if isinstance(node, (ast.For, ast.While)) and node.orelse:
            yield f"L6: else behind the loop in line {node.lineno}"
        if isinstance(node, ast.Assign) and len(node.targets) != 1:
            yield f"L6: two targets in line {node.lineno}"
        if isinstance(node, ast.Try) and node.finalbody:
            yield f"L6: finally in line {node.lineno}"
        if isinstance(node, ast.Constant):
            if not isinstance(node.value, (int, str, bool, None.__class__)):
                yield f"L7: {node.value!r}"
            if isinstance(node.value, str) and "%" in node.value:
                yield f"L27: a text in line {node.lineno}"
        if isinstance(node, ast.BinOp) and isinstance(node.op, ast.Pow) and not isinstance(node.right, ast.Constant):
            yield f"L27: a power in line {node.lineno}"
        if isinstance(node, ast.Compare):
            for op, side in zip(node.ops, node.comparators):
                if isinstance(op, (ast.Is, ast.IsNot)) and not (
                    isinstance(side, ast.Constant) and side.value in (None, True, False)
                ):
                    yield f"L20: line {node.lineno}"


def call_faults(tree, own_methods):
    for node in ast.walk(tree):
        if isinstance(node, ast.Call) and isinstance(node.func, ast.Attribute):
            if node.func.attr not in METHODS | own_methods:
                yield f"L25: {node.func.attr} in line {node.lineno}"


def import_faults(tree, files):
    inside = {id(node) for node in tree.body}
    for node in ast.walk(tree):
        if isinstance(node, ast.ImportFrom):
            path = (node.module or "").split(".")
            if node.level or id(node) not in inside or path[0] != "inkdays" or len(path) != 2:
                yield f"L2: line {node.lineno}"
            elif path[1] not in files:
                yield f"L2: no file {path[1]}"
            else:
                for name in node.names:
                    if name.name not in top_names(files[path[1]]):
                        yield f"L16: {path[1]} does not define {name.name}"


def drawn_from(tree):
    return {node.module.split(".")[-1] for node in ast.walk(tree) if isinstance(node, ast.ImportFrom)}


def faults(source, files):
    tree = ast.parse(source)
    own_methods = {
        part.name for other in list(files.values()) + [tree] for node in ast.walk(other)
        if isinstance(node, ast.ClassDef) for part in node.body if isinstance(part, ast.FunctionDef)
    }
    return (
        list(text_faults(source)) + list(node_faults(tree)) + list(name_faults(tree))
        + list(call_faults(tree, own_methods)) + list(import_faults(tree, files))
    )


class ThePackage(unittest.TestCase):
    def setUp(self):
        self.sources = {path.stem: path.read_text(encoding="utf-8") for path in PACKAGE.glob("*.py")}
        self.files = {name: ast.parse(source) for name, source in self.sources.items()}

    def test_nothing_else_lies_in_it(self):
        for path in PACKAGE.iterdir():
            if path.name != "__pycache__":
                self.assertRegex(path.name, r"^([a-z][a-z0-9_]*|__init__|__main__)\.py$")
        self.assertIn("__init__", self.files)

    def test_each_file_keeps_to_the_rules(self):
        for name, source in self.sources.items():
            self.assertEqual(faults(source, self.files), [], name)

    def test_no_two_files_draw_from_one_another(self):
        left = {name: drawn_from(tree) for name, tree in self.files.items()}
        while left:
            free = [name for name, needs in left.items() if not needs & set(left)]
            self.assertTrue(free, f"L16: {sorted(left)} draw from one another")
            for name in free:
                left.pop(name)

    def test_no_name_is_a_method_here_and_a_value_there(self):
        methods, values = set(), set()
        for tree in self.files.values():
            for node in ast.walk(tree):
                if isinstance(node, ast.ClassDef):
                    methods |= {part.name for part in node.body if isinstance(part, ast.FunctionDef)}
                if isinstance(node, ast.Attribute) and isinstance(node.ctx, ast.Store):
                    values.add(node.attr)
        self.assertEqual(methods & values, set())


class TheCheckItself(unittest.TestCase):
    def test_it_sees_what_is_outside_of_the_rules(self):
        for source in (
            "import os\n", "import datetime\n", "from inkdays.days import *\n", "from .days import is_leap\n",
            "from random import random\n", "def f():\n    from inkdays.days import is_leap\n",
            "x = 1 / 2\n", "x = 1.5\n", "x = b'a'\n", "x = {1: 2 for k in []}\n", "x = y = 1\n", "x = 1\nx = 2\n",
            "def f(*a):\n    pass\n", "def f():\n    print(1)\n", "def f():\n    global k\n", "x = 'a%'\n",
            "def f(list):\n    pass\n", "def f():\n    id = 3\n", "class A:\n    x = 1\n", "# a type\n", "x = '\t'\n",
            "def f(xs):\n    xs.sort()\n", "def f(n):\n    return 2 ** n\n", "def f(a, b):\n    return a is b\n",
            "hidden = _x = 1\n", "def _f():\n    pass\n", "# " + "a" * 120 + "\n", "pass\n" * 401,
            "def f():\n" + "    pass\n" * 40, "def f():\n    open('a')\n", "x = '\u00e9'\n",
        ):
            with self.subTest(source[:60]):
                self.assertNotEqual(faults(source, {"days": ast.parse("def is_leap(year):\n    pass\n")}), [])

    def test_it_lets_plain_code_be(self):
        source = (
            '"""A file."""\n\nfrom inkdays.days import is_leap\n\nLIST = (1, 2)\n\n\n'
            "def f(year):\n    xs = [k for k in LIST if k > 1]\n    xs.append(year)\n    return is_leap(year) or xs\n"
        )
        self.assertEqual(faults(source, {"days": ast.parse("def is_leap(year):\n    pass\n")}), [])


if __name__ == "__main__":
    unittest.main()
