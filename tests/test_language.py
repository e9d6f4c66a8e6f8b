"""Holds the package's files against those rows of the language's rules that can be seen in the code."""

import ast
import builtins
import pathlib
import re
import unittest

PACKAGE = pathlib.Path(__file__).resolve().parent.parent / "learnyard"

OWN_NAMES = set("""len range enumerate zip min max sum abs sorted reversed int str bool list tuple dict set frozenset
isinstance ord repr any all divmod Exception ValueError TypeError KeyError IndexError LookupError ZeroDivisionError
ArithmeticError OverflowError RuntimeError NotImplementedError AttributeError StopIteration""".split())
METHODS = set("""append clear copy count endswith extend find get index insert isalnum isalpha isdigit islower isspace
isupper items join keys ljust lower lstrip partition pop remove replace reverse rfind rjust rpartition rsplit rstrip
setdefault split splitlines startswith strip update upper values zfill bit_length""".split())
DUNDERS = {"__init__", "__eq__", "__repr__", "__str__", "__len__"}
WORDS = r"\b(type|typing|typing_extensions|enum|Enum|IntEnum|StrEnum|Flag|IntFlag|Generic|Protocol|ABC|ABCMeta|" \
        r"namedtuple|NamedTuple|TypedDict|TYPE_CHECKING|abstractmethod)\b|dataclass|overload|contextmanager"
UNUSED = set("""register mro elements open input version_info with_traceback add_note format format_map""".split())
NODES = """Module Expr Constant ImportFrom alias FunctionDef arguments arg ClassDef Assign AugAssign If While For Return
Break Continue Pass Raise Try ExceptHandler Call Name Attribute Subscript Slice List Tuple Dict ListComp comprehension
BinOp UnaryOp BoolOp Compare IfExp Lambda JoinedStr FormattedValue keyword Load Store Add Sub Mult FloorDiv Mod Pow
BitAnd BitOr BitXor LShift RShift Invert USub UAdd Not And Or Eq NotEq Lt LtE Gt GtE In NotIn Is IsNot""".split()
TAKEN = {name for kind in (str, int, list, tuple, dict, set, frozenset, bytes, bool) for name in dir(kind)}
VALUES = set("count index title find get join lower upper split strip copy add".split())
WALKED = {"zip", "enumerate", "reversed", "range"}
WALKERS = {"list", "tuple", "dict", "sorted", "sum", "any", "all", "enumerate", "zip", "min", "max"}


def called(node):
    return node.func.id if isinstance(node, ast.Call) and isinstance(node.func, ast.Name) else None


def faults(text):
    tree = ast.parse(text)
    for node in ast.walk(tree):
        for child in ast.iter_child_nodes(node):
            child.above = node
    found = text_faults(text)
    for node in ast.walk(tree):
        if type(node).__name__ not in NODES:
            found.append(f"L6/L7 {type(node).__name__}")
        found += name_faults(node, tree) + def_faults(node) + call_faults(node) + value_faults(node)
        found += object_faults(node)
    return found + top_faults(tree)


def text_faults(text):
    found = [f"L14 sign {sign!r}" for sign in text if not (" " <= sign <= "~" or sign == "\n")]
    found += [f"L10 long line {line!r}" for line in text.split("\n") if len(line) > 120]
    if text.count("\n") > 400:
        found.append("L10 long file")
    return found + [f"L17 word {match.group()}" for match in re.finditer(WORDS, text)]


def top_names(tree):
    names = []
    for node in tree.body:
        if isinstance(node, (ast.FunctionDef, ast.ClassDef)):
            names.append(node.name)
        if isinstance(node, ast.ImportFrom):
            names += [alias.asname or alias.name for alias in node.names]
        if isinstance(node, ast.Assign):
            names += [target.id for target in node.targets]
    return names


def top_faults(tree):
    names = top_names(tree)
    found = [f"L15 twice {name}" for name in set(names) if names.count(name) > 1]
    for place, node in enumerate(tree.body):
        if isinstance(node, ast.Expr) and (place or not isinstance(node.value, ast.Constant)):
            found.append("L3 something done at the top")
        if not isinstance(node, (ast.Expr, ast.ImportFrom, ast.FunctionDef, ast.ClassDef, ast.Assign)):
            found.append("L3 statement at the top")
    return found


def inside_def(node):
    above = getattr(node, "above", None)
    return above is not None and (isinstance(above, (ast.FunctionDef, ast.Lambda)) or inside_def(above))


def name_faults(node, tree):
    if isinstance(node, ast.Name):
        name, binds = node.id, isinstance(node.ctx, ast.Store)
    elif isinstance(node, ast.arg):
        name, binds = node.arg, True
    elif isinstance(node, (ast.FunctionDef, ast.ClassDef)):
        name, binds = node.name, True
    else:
        return []
    found = []
    if name.startswith("_") and name not in DUNDERS:
        found.append(f"L12 {name}")
    if hasattr(builtins, name) and name not in DUNDERS and (binds or name not in OWN_NAMES):
        found.append(f"L8/L15 {name}")
    if binds and inside_def(node) and name in top_names(tree):
        found.append(f"L15 local {name}")
    return found + ([f"L17 {name}"] if name in UNUSED else [])


def def_faults(node):
    if isinstance(node, ast.ImportFrom):
        good = node.level == 0 and (node.module or "").startswith("learnyard.") and node.names[0].name != "*"
        return [] if good else ["L2 import"]
    if isinstance(node, ast.ClassDef):
        odd = [part for part in node.body if not isinstance(part, (ast.FunctionDef, ast.Pass))]
        return ["L5 class"] if odd or node.decorator_list or node.keywords or len(node.bases) > 1 else []
    if not isinstance(node, ast.FunctionDef):
        return []
    found = []
    if node.decorator_list or node.returns or node.args.vararg or node.args.kwarg or node.args.kwonlyargs:
        found.append(f"L4 {node.name}")
    if node.end_lineno - node.lineno >= 40:
        found.append(f"L10 long {node.name}")
    return found


def call_faults(node):
    found = []
    if isinstance(node, ast.Attribute) and isinstance(node.above, ast.Call) and node.above.func is node:
        if node.attr not in METHODS and not (isinstance(node.value, ast.Name) and node.value.id == "self"):
            found.append(f"L25 {node.attr}")
    name = called(node)
    above = getattr(node, "above", None)
    if name in WALKED and not isinstance(above, (ast.For, ast.comprehension)) and called(above) not in WALKERS:
        found.append(f"L23 {name}")
    if name in ("set", "frozenset") and called(above) not in ("sorted", "len") \
            and not isinstance(above, (ast.Compare, ast.BinOp)):
        found.append("L24 set kept")
    if isinstance(node, ast.Expr) and not isinstance(node.value, ast.Call) and not isinstance(above, ast.Module):
        found.append("L6 value by itself")
    return found


def methods_of(node):
    return [part for part in node.body if isinstance(part, ast.FunctionDef)]


def values_of(node):
    return [part.attr for part in ast.walk(node) if isinstance(part, ast.Attribute) and isinstance(part.ctx, ast.Store)]


def object_faults(node):
    if not isinstance(node, ast.ClassDef):
        return []
    methods = [method.name for method in methods_of(node)]
    values = values_of(node)
    found = [f"L18 {name} twice" for name in set(methods) if methods.count(name) > 1]
    found += [f"L18 {name} is a method and a value" for name in set(values) if name in methods]
    found += [f"L26 value {name}" for name in values if name in TAKEN and name not in VALUES]
    found += [f"L26 method {name}" for name in methods if name in TAKEN - METHODS - DUNDERS]
    for method in methods_of(node):
        if method.name == "__init__" and [part for part in ast.walk(method) if isinstance(part, ast.Return)]:
            found.append("L28 __init__ gives something back")
    return found


def value_faults(node):
    found = []
    if isinstance(node, ast.Constant) and isinstance(node.value, (float, complex, bytes)):
        found.append("L7 number or bytes")
    if isinstance(node, ast.Constant) and isinstance(node.value, str) and "%" in node.value:
        found.append("L27 sign within a text")
    if isinstance(node, ast.BinOp) and isinstance(node.op, ast.Pow) and not isinstance(node.right, ast.Constant):
        found.append("L27 power")
    if isinstance(node, ast.Compare):
        for operator, right in zip(node.ops, node.comparators):
            plain = isinstance(right, ast.Constant) and right.value in (None, True, False)
            if isinstance(operator, (ast.Is, ast.IsNot)) and not plain:
                found.append("L20 is")
    if isinstance(node, ast.ListComp) and (len(node.generators) > 1 or len(node.generators[0].ifs) > 1):
        found.append("L7 comprehension")
    if isinstance(node, ast.Assign) and (len(node.targets) > 1 or isinstance(node.targets[0], ast.Tuple)):
        found.append("L6 several targets")
    if isinstance(node, ast.Raise) and not isinstance(node.exc, ast.Call):
        found.append("L19 raise")
    return found


BROKEN = (
    "import os\n", "from .rules import states\n", "from learnyard.rules import *\n", "def f(*a):\n    return a\n",
    "def f(a):\n    return a / 2\n", "def f(a):\n    return 2 ** a\n", "def f(a):\n    return {b for b in a}\n",
    "def f(a):\n    b, c = a\n    return b\n", "def f(a):\n    return a.sort()\n", "def f(a):\n    yield a\n",
    "def f(a):\n    assert a\n", "def f(a):\n    'told'\n    return a\n", "def f(list):\n    return list\n",
    "def f(a):\n    next = a\n    return next\n", "def f(a):\n    b = set(a)\n    return b\n",
    "def f(a):\n    b = range(a)\n    return b\n", "def f(a):\n    return a is f\n", "def _f(a):\n    return a\n",
    "a = 1\na = 2\n", "class C:\n    a = 1\n", "def f(a):\n    return eval(a)\n", "# its type\n", "pass\n",
    "a = '\t'\n",
    "def f(a):\n    raise a\n", "def f(a):\n    return 1.5\n", "a = '" + "x" * 120 + "'\n", "a = '5%'\n",
    "def f(a):\n    return [b for c in a for b in c]\n", "def f(a):\n" + "    a += 1\n" * 40 + "    return a\n",
    "from learnyard.rules import core\n\n\ndef f(a):\n    core = a\n    return core\n",
    "class C:\n    def f(self):\n        self.f = 1\n", "class C:\n    def f(self):\n        self.values = 1\n",
    "class C:\n    def union(self):\n        pass\n", "class C:\n    def __init__(self):\n        return None\n",
    "class C:\n    def __hash__(self):\n        pass\n",
    "class C:\n    def f(self):\n        pass\n\n    def f(self):\n        pass\n",
)


class LanguageTest(unittest.TestCase):
    def test_files(self):
        for path in PACKAGE.iterdir():
            if path.name != "__pycache__":
                self.assertRegex(path.name, r"^[a-z][a-z0-9_]*\.py$|^__init__\.py$")

    def test_package_keeps_to_the_rules(self):
        for path in sorted(PACKAGE.glob("*.py")):
            with self.subTest(path=path.name):
                self.assertEqual(faults(path.read_text(encoding="utf-8")), [])

    def test_faults_are_seen(self):
        for text in BROKEN:
            with self.subTest(text=text):
                self.assertNotEqual(faults(text), [])

    def test_no_two_files_draw_from_one_another(self):
        drawn = {}
        for path in PACKAGE.glob("*.py"):
            tree = ast.parse(path.read_text(encoding="utf-8"))
            drawn[path.stem] = [node.module.split(".")[1] for node in tree.body if isinstance(node, ast.ImportFrom)]
        while drawn:
            free = [name for name in drawn if not any(other in drawn for other in drawn[name])]
            self.assertNotEqual(free, [], drawn)
            drawn = {name: others for name, others in drawn.items() if name not in free}


if __name__ == "__main__":
    unittest.main()
