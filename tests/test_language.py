"""Holds the package's files to those rules of shared/LANGUAGE.md that can be read off them."""

import ast
import builtins
import re
import unittest
from pathlib import Path

PACKAGE = Path(__file__).resolve().parent.parent / "backindex"

NODES = tuple(getattr(ast, name) for name in """
    Module FunctionDef ClassDef Return Assign AugAssign For While If Raise Try ExceptHandler ImportFrom Expr Pass Break
    Continue BoolOp BinOp UnaryOp Lambda IfExp Dict Set ListComp comprehension Compare Call JoinedStr FormattedValue
    Constant Attribute Subscript Name List Tuple Slice expr_context arguments arg keyword alias boolop unaryop cmpop
    Add Sub Mult FloorDiv Mod Pow LShift RShift BitOr BitXor BitAnd
""".split())
BUILT_IN = set("""
    len range enumerate zip min max sum abs sorted reversed int str bool list tuple dict set frozenset isinstance ord
    repr any all divmod Exception ValueError TypeError KeyError IndexError LookupError ZeroDivisionError
    ArithmeticError OverflowError RuntimeError NotImplementedError AttributeError StopIteration
""".split())
METHODS = set("""
    append clear copy count endswith extend find get index insert isalnum isalpha isdigit islower isspace isupper items
    join keys ljust lower lstrip partition pop remove replace reverse rfind rjust rpartition rsplit rstrip setdefault
    split splitlines startswith strip update upper values zfill bit_length
""".split())
DUNDERS = ("__init__", "__eq__", "__repr__", "__str__", "__len__")
WORDS = re.compile(
    r"\b(type|typing|typing_extensions|enum|Enum|IntEnum|StrEnum|Flag|IntFlag|Generic|Protocol|ABC|ABCMeta|namedtuple"
    r"|NamedTuple|TypedDict|TYPE_CHECKING|abstractmethod)\b|dataclass|overload|contextmanager"
)
# The names of Python's own values (L26), and those of them that a method or a value of an object may bear all the same.
PYTHONS_OWN = {name for kind in (str, int, list, tuple, dict, set, bytes) for name in dir(kind)}
METHODS_TOO = METHODS | {"add", "discard"}
VALUES_TOO = set("count index title find get join lower upper split strip copy add".split())
WALKED = ("zip", "enumerate", "reversed", "range", "items", "keys", "values")
WALKERS = ("list", "tuple", "dict", "sorted", "sum", "any", "all", "enumerate", "zip", "min", "max", "join")
KEYWORDS = {
    "sorted": ("key", "reverse"), "min": ("key", "default"), "max": ("key", "default"), "sum": ("start",),
    "enumerate": ("start",), "zip": ("strict",),
}
FILE_NAME = re.compile(r"[a-z][a-z0-9_]*\.py|__init__\.py")
PLAIN_NAME = re.compile(r"[A-Za-z][A-Za-z0-9_]*")


def row_faults(source):
    rows = source.split("\n")
    faults = [(at, "L10") for at, row in enumerate(rows, 1) if len(row) > 120 or at > 401]
    faults += [(at, "L14") for at, row in enumerate(rows, 1) if re.search("[^ -~]", row)]
    return faults + [(at, "L17") for at, row in enumerate(rows, 1) if WORDS.search(row)]


def own_methods(trees):
    return {
        part.name for tree in trees for node in ast.walk(tree) if isinstance(node, ast.ClassDef)
        for part in node.body if isinstance(part, ast.FunctionDef)
    }


def own_values(trees):
    return {
        node.attr for tree in trees for node in ast.walk(tree)
        if isinstance(node, ast.Attribute) and isinstance(node.ctx, ast.Store)
    }


def own_faults(trees):
    methods, values = own_methods(trees), own_values(trees)
    faults = [("L18", name) for name in methods & values]
    faults += [("L26", name) for name in (methods - set(DUNDERS) - METHODS_TOO) & PYTHONS_OWN]
    return faults + [("L26", name) for name in (values - VALUES_TOO) & PYTHONS_OWN]


def called(node):
    """The name of what is called, a method's too, or None where the node is no call."""
    if not isinstance(node, ast.Call):
        return None
    return getattr(node.func, "id", getattr(node.func, "attr", None))


def walk_faults(tree):
    """Those that hang on where a call stands: L22 to L24."""
    for above in ast.walk(tree):
        for node in ast.iter_child_nodes(above):
            name = called(node)
            walks = isinstance(above, (ast.For, ast.comprehension)) and node is above.iter or called(above) in WALKERS
            if name in WALKED and not walks:
                yield node.lineno, "L23"
            held = called(above) in ("sorted", "len") or isinstance(above, (ast.Compare, ast.BinOp))
            if name == "set" and not held:
                yield node.lineno, "L24"
            if name in BUILT_IN | METHODS:
                if any(word.arg not in KEYWORDS.get(name, ()) for word in node.keywords):
                    yield node.lineno, "L22"


def bound_at_top(tree):
    names = []
    for node in tree.body:
        if isinstance(node, ast.ImportFrom):
            names += [alias.asname or alias.name for alias in node.names]
        elif isinstance(node, ast.Assign):
            names += [target.id for target in node.targets]
        elif isinstance(node, (ast.FunctionDef, ast.ClassDef)):
            names.append(node.name)
    return names


def top_faults(tree):
    """L15: each name of a file's top is bound there once, and no local is called like a class or an import."""
    names = bound_at_top(tree)
    taken = [
        name for node in tree.body if isinstance(node, (ast.ImportFrom, ast.ClassDef))
        for name in bound_at_top(ast.Module([node], []))
    ]
    if len(set(names)) != len(names):
        yield 1, "L15"
    for node in ast.walk(tree):
        if isinstance(node, (ast.Name, ast.arg)) and bound_name(node) in taken:
            yield node.lineno, "L15"


def drawn_from(tree):
    return {node.module.split(".", 1)[1] for node in tree.body if isinstance(node, ast.ImportFrom)}


def import_faults(trees):
    """L16: each name is drawn from the file that defines it, and no file draws from itself in any many steps."""
    drawn = {name: drawn_from(tree) for name, tree in trees.items()}
    for name, tree in trees.items():
        for node in tree.body:
            if isinstance(node, ast.ImportFrom):
                source = trees[node.module.split(".", 1)[1]]
                defined = set(bound_at_top(ast.Module([
                    part for part in source.body if not isinstance(part, ast.ImportFrom)
                ], [])))
                if not {alias.name for alias in node.names} <= defined:
                    yield name, "L16"
        reached = set(drawn[name])
        while not all(drawn[other] <= reached for other in reached):
            reached = reached.union(*(drawn[other] for other in reached))
        if name in reached:
            yield name, "L16"


def bound_name(node):
    if isinstance(node, ast.Name) and isinstance(node.ctx, ast.Store):
        return node.id
    if isinstance(node, ast.arg):
        return node.arg
    return node.name if isinstance(node, (ast.FunctionDef, ast.ClassDef)) else None


def name_faults(node, own):
    name = bound_name(node)
    if name is not None and name not in DUNDERS and not PLAIN_NAME.fullmatch(name):
        yield "L12"
    if isinstance(node, (ast.Name, ast.arg)) and name is not None and hasattr(builtins, name):
        yield "L15"
    if isinstance(node, ast.Name) and hasattr(builtins, node.id) and node.id not in BUILT_IN:
        yield "L8"
    if isinstance(node, ast.Attribute) and node.attr not in own and node.attr not in METHODS | set(DUNDERS):
        yield "L25"


def def_faults(node):
    if isinstance(node, ast.FunctionDef):
        if node.end_lineno - node.lineno >= 40:
            yield "L10"
        if node.decorator_list or node.args.posonlyargs:
            yield "L4"
    if isinstance(node, ast.arguments) and (node.vararg or node.kwarg or node.kwonlyargs):
        yield "L4"
    if isinstance(node, ast.ClassDef):
        if node.decorator_list or node.keywords or len(node.bases) > 1:
            yield "L5"
        if not all(isinstance(part, (ast.FunctionDef, ast.Pass)) for part in node.body):
            yield "L5"


def statement_faults(node):
    if isinstance(node, ast.ImportFrom) and (
        node.level or node.col_offset or not (node.module or "").startswith("backindex.")
        or any(alias.name == "*" for alias in node.names)
    ):
        yield "L2"
    if isinstance(node, ast.Expr) and not isinstance(node.value, ast.Call):
        yield "L6"
    if isinstance(node, (ast.For, ast.While)) and node.orelse or isinstance(node, ast.Try) and node.finalbody:
        yield "L6"
    if isinstance(node, ast.Assign) and (len(node.targets) > 1 or isinstance(node.targets[0], (ast.Tuple, ast.List))):
        yield "L6"
    if isinstance(node, ast.ExceptHandler) and (
        node.type is None or isinstance(node.type, ast.Name) and node.type.id in ("Exception", "TypeError")
    ):
        yield "L19"


def value_faults(node):
    if not isinstance(node, NODES):
        yield "L6" if isinstance(node, ast.stmt) else "L7"
    if isinstance(node, ast.Constant) and not isinstance(node.value, (int, str, bool, type(None))):
        yield "L7"
    if isinstance(node, ast.Constant) and isinstance(node.value, str) and "%" in node.value:
        yield "L27"
    if isinstance(node, ast.ListComp) and (len(node.generators) > 1 or len(node.generators[0].ifs) > 1):
        yield "L7"
    if isinstance(node, ast.Compare) and any(isinstance(op, (ast.Is, ast.IsNot)) for op in node.ops):
        sides = [node.left] + node.comparators
        if not any(isinstance(side, ast.Constant) and side.value in (None, True, False) for side in sides):
            yield "L20"


def faults_of(source, own=()):
    tree = ast.parse(source)
    faults = row_faults(source)
    if ast.get_docstring(tree) is not None:
        tree.body = tree.body[1:]
    for node in ast.walk(tree):
        for found in (name_faults(node, own), def_faults(node), statement_faults(node), value_faults(node)):
            faults += [(getattr(node, "lineno", 0), rule) for rule in found]
    return faults + list(walk_faults(tree)) + list(top_faults(tree))


class Language(unittest.TestCase):
    def test_the_package_holds_files_with_plain_names_alone(self):
        for path in PACKAGE.iterdir():
            if path.name != "__pycache__":
                self.assertTrue(path.is_file() and FILE_NAME.fullmatch(path.name), path.name)
        self.assertTrue((PACKAGE / "__init__.py").is_file())

    def test_each_file_keeps_to_the_rules(self):
        sources = {path.name: path.read_text(encoding="utf-8") for path in PACKAGE.glob("*.py")}
        trees = {name.removesuffix(".py"): ast.parse(source) for name, source in sources.items()}
        own = own_methods(trees.values()) | own_values(trees.values())
        self.assertEqual(own_faults(trees.values()), [])
        self.assertEqual(list(import_faults(trees)), [])
        for name, source in sources.items():
            with self.subTest(name):
                self.assertEqual(faults_of(source, own), [])

    def test_faults_are_seen(self):
        planted = (
            ("import os\n", "L6"), ("from os import path\n", "L2"), ("from .errors import NoRow\n", "L2"),
            ("def one(*rest):\n    return rest\n", "L4"), ("class One:\n    size = 1\n", "L5"),
            ("def one():\n    'told'\n    return 1\n", "L6"), ("def one():\n    two = three = 1\n", "L6"),
            ("def one():\n    two, three = (1, 2)\n", "L6"),
            ("def one(row):\n    return row / 2\n", "L7"), ("def one():\n    return 0.5\n", "L7"),
            ("def one():\n    return print\n", "L8"), ("def one():\n    return chr(65)\n", "L8"),
            ("def one():\n" + "    pass\n" * 40, "L10"), ("# " + "a" * 120 + "\n", "L10"), ("# a\n" * 401, "L10"),
            ("def one(_row):\n    return 1\n", "L12"), ("# \u00e4\n", "L14"), ("# a\ttab\n", "L14"),
            ("def one(min):\n    return 1\n", "L15"), ("# its type\n", "L17"),
            ("def one(row):\n    try:\n        row()\n    except Exception:\n        pass\n", "L19"),
            ("def one(row, other):\n    return row is other\n", "L20"),
            ("def one(row):\n    row.sort()\n", "L25"), ("SIGN = '%'\n", "L27"),
            ("ONE = 1\nONE = 2\n", "L15"), ("class One:\n    pass\n\n\ndef two(One):\n    return One\n", "L15"),
            ("from backindex.errors import NoRow\n\n\ndef one():\n    NoRow = 1\n    return NoRow\n", "L15"),
            ("def one(row):\n    return row.split(sep=' ')\n", "L22"),
            ("def one(row):\n    return enumerate(row)\n", "L23"), ("def one(row):\n    return set(row)\n", "L24"),
        )
        for source, rule in planted:
            with self.subTest(source):
                self.assertIn(rule, [found for line, found in faults_of(source)])

    def test_faults_over_the_whole_package_are_seen(self):
        for sources, rule in (
            (("class One:\n    def far(self):\n        return 1\n", "def two(one):\n    one.far = 1\n"), "L18"),
            (("class One:\n    def sort(self):\n        return 1\n",), "L26"),
            (("def two(one):\n    one.pop = 1\n",), "L26"),
        ):
            with self.subTest(sources):
                self.assertIn(rule, [found for found, name in own_faults([ast.parse(source) for source in sources])])
        for sources in (
            {"one": "from backindex.two import x\n", "two": "from backindex.one import x\n"},
            {"one": "from backindex.two import x\n", "two": "from backindex.three import x\n", "three": "x = 1\n"},
            {"one": "from backindex.one import x\nx = 1\n"},
        ):
            with self.subTest(sources):
                trees = {name: ast.parse(source) for name, source in sources.items()}
                self.assertIn("L16", [found for name, found in import_faults(trees)])


if __name__ == "__main__":
    unittest.main()
