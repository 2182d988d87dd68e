"""Holds the package's files to those rules of shared/LANGUAGE.md that can be read off each file by itself."""

import ast
import builtins
import re
import unittest
from pathlib import Path

PACKAGE = Path(__file__).resolve().parent.parent / "backindex"

NODES = tuple(getattr(ast, name) for name in """
    Module FunctionDef ClassDef Return Assign AugAssign For While If Raise Try ExceptHandler ImportFrom Expr Pass Break
    Continue BoolOp BinOp UnaryOp Lambda IfExp Dict Set ListComp comprehension Compare Call JoinedStr FormattedValue
    Constant Attribute Subscript Name List Tuple Slice expr_context arguments arg keyword alias boolop unaryop cmpop
    Add Sub Mult FloorDiv Mod Pow LShift RShift BitOr BitXor BitAnd
""".split())
BUILT_IN = set("""
    len range enumerate zip min max sum abs sorted reversed int str bool list tuple dict set frozenset isinstance ord
    repr any all divmod Exception ValueError TypeError KeyError IndexError LookupError ZeroDivisionError
    ArithmeticError OverflowError RuntimeError NotImplementedError AttributeError StopIteration
""".split())
METHODS = set("""
    append clear copy count endswith extend find get index insert isalnum isalpha isdigit islower isspace isupper items
    join keys ljust lower lstrip partition pop remove replace reverse rfind rjust rpartition rsplit rstrip setdefault
    split splitlines startswith strip update upper values zfill bit_length
""".split())
DUNDERS = ("__init__", "__eq__", "__repr__", "__str__", "__len__")
WORDS = re.compile(
    r"\b(type|typing|typing_extensions|enum|Enum|IntEnum|StrEnum|Flag|IntFlag|Generic|Protocol|ABC|ABCMeta|namedtuple"
    r"|NamedTuple|TypedDict|TYPE_CHECKING|abstractmethod)\b|dataclass|overload|contextmanager"
)
FILE_NAME = re.compile(r"[a-z][a-z0-9_]*\.py|__init__\.py")
PLAIN_NAME = re.compile(r"[A-Za-z][A-Za-z0-9_]*")


def row_faults(source):
    rows = source.split("\n")
    faults = [(at, "L10") for at, row in enumerate(rows, 1) if len(row) > 120 or at > 401]
    faults += [(at, "L14") for at, row in enumerate(rows, 1) if re.search("[^ -~]", row)]
    return faults + [(at, "L17") for at, row in enumerate(rows, 1) if WORDS.search(row)]


def own_attributes(trees):
    methods = [
        part.name for tree in trees for node in ast.walk(tree) if isinstance(node, ast.ClassDef)
        for part in node.body if isinstance(part, ast.FunctionDef)
    ]
    values = [
        node.attr for tree in trees for node in ast.walk(tree)
        if isinstance(node, ast.Attribute) and isinstance(node.ctx, ast.Store)
    ]
    return set(methods + values)


def bound_name(node):
    if isinstance(node, ast.Name) and isinstance(node.ctx, ast.Store):
        return node.id
    if isinstance(node, ast.arg):
        return node.arg
    return node.name if isinstance(node, (ast.FunctionDef, ast.ClassDef)) else None


def name_faults(node, own):
    name = bound_name(node)
    if name is not None and name not in DUNDERS and not PLAIN_NAME.fullmatch(name):
        yield "L12"
    if isinstance(node, (ast.Name, ast.arg)) and name is not None and hasattr(builtins, name):
        yield "L15"
    if isinstance(node, ast.Name) and hasattr(builtins, node.id) and node.id not in BUILT_IN:
        yield "L8"
    if isinstance(node, ast.Attribute) and node.attr not in own and node.attr not in METHODS | set(DUNDERS):
        yield "L25"


def def_faults(node):
    if isinstance(node, ast.FunctionDef):
        if node.end_lineno - node.lineno >= 40:
            yield "L10"
        if node.decorator_list or node.args.posonlyargs:
            yield "L4"
    if isinstance(node, ast.arguments) and (node.vararg or node.kwarg or node.kwonlyargs):
        yield "L4"
    if isinstance(node, ast.ClassDef):
        if node.decorator_list or node.keywords or len(node.bases) > 1:
            yield "L5"
        if not all(isinstance(part, (ast.FunctionDef, ast.Pass)) for part in node.body):
            yield "L5"


def statement_faults(node):
    if isinstance(node, ast.ImportFrom) and (
        node.level or node.col_offset or not (node.module or "").startswith("backindex.")
        or any(alias.name == "*" for alias in node.names)
    ):
        yield "L2"
    if isinstance(node, ast.Expr) and not isinstance(node.value, ast.Call):
        yield "L6"
    if isinstance(node, (ast.For, ast.While)) and node.orelse or isinstance(node, ast.Try) and node.finalbody:
        yield "L6"
    if isinstance(node, ast.Assign) and len(node.targets) > 1:
        yield "L6"
    if isinstance(node, ast.ExceptHandler) and (
        node.type is None or isinstance(node.type, ast.Name) and node.type.id in ("Exception", "TypeError")
    ):
        yield "L19"


def value_faults(node):
    if not isinstance(node, NODES):
        yield "L6" if isinstance(node, ast.stmt) else "L7"
    if isinstance(node, ast.Constant) and not isinstance(node.value, (int, str, bool, type(None))):
        yield "L7"
    if isinstance(node, ast.Constant) and isinstance(node.value, str) and "%" in node.value:
        yield "L27"
    if isinstance(node, ast.ListComp) and (len(node.generators) > 1 or len(node.generators[0].ifs) > 1):
        yield "L7"
    if isinstance(node, ast.Compare) and any(isinstance(op, (ast.Is, ast.IsNot)) for op in node.ops):
        sides = [node.left] + node.comparators
        if not any(isinstance(side, ast.Constant) and side.value in (None, True, False) for side in sides):
            yield "L20"


def faults_of(source, own=()):
    tree = ast.parse(source)
    faults = row_faults(source)
    if ast.get_docstring(tree) is not None:
        tree.body = tree.body[1:]
    for node in ast.walk(tree):
        for found in (name_faults(node, own), def_faults(node), statement_faults(node), value_faults(node)):
            faults += [(getattr(node, "lineno", 0), rule) for rule in found]
    return faults


class Language(unittest.TestCase):
    def test_the_package_holds_files_with_plain_names_alone(self):
        for path in PACKAGE.iterdir():
            if path.name != "__pycache__":
                self.assertTrue(path.is_file() and FILE_NAME.fullmatch(path.name), path.name)
        self.assertTrue((PACKAGE / "__init__.py").is_file())

    def test_each_file_keeps_to_the_rules(self):
        sources = {path.name: path.read_text(encoding="utf-8") for path in PACKAGE.glob("*.py")}
        own = own_attributes([ast.parse(source) for source in sources.values()])
        for name, source in sources.items():
            with self.subTest(name):
                self.assertEqual(faults_of(source, own), [])

    def test_faults_are_seen(self):
        planted = (
            ("import os\n", "L6"), ("from os import path\n", "L2"), ("from .errors import NoRow\n", "L2"),
            ("def one(*rest):\n    return rest\n", "L4"), ("class One:\n    size = 1\n", "L5"),
            ("def one():\n    'told'\n    return 1\n", "L6"), ("def one():\n    two = three = 1\n", "L6"),
            ("def one(row):\n    return row / 2\n", "L7"), ("def one():\n    return 0.5\n", "L7"),
            ("def one():\n    return print\n", "L8"), ("def one():\n    return chr(65)\n", "L8"),
            ("def one():\n" + "    pass\n" * 40, "L10"), ("# " + "a" * 120 + "\n", "L10"), ("# a\n" * 401, "L10"),
            ("def one(_row):\n    return 1\n", "L12"), ("# \u00e4\n", "L14"), ("# a\ttab\n", "L14"),
            ("def one(min):\n    return 1\n", "L15"), ("# its type\n", "L17"),
            ("def one(row):\n    try:\n        row()\n    except Exception:\n        pass\n", "L19"),
            ("def one(row, other):\n    return row is other\n", "L20"),
            ("def one(row):\n    row.sort()\n", "L25"), ("SIGN = '%'\n", "L27"),
        )
        for source, rule in planted:
            with self.subTest(source):
                self.assertIn(rule, [found for line, found in faults_of(source)])


if __name__ == "__main__":
    unittest.main()
