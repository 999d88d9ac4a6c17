"""The package keeps to its small part of Python: the rules L1 to L28, so far as a look at the source shows them."""

import ast
import builtins
import pathlib
import re
import unittest

PACKAGE = pathlib.Path(__file__).resolve().parent.parent / "plainspeak"

CALLS = set(
    "len range enumerate zip min max sum abs sorted reversed int str bool list tuple dict set frozenset isinstance ord"
    " repr any all divmod".split()
)
ERRORS = set(
    "Exception ValueError TypeError KeyError IndexError LookupError ZeroDivisionError ArithmeticError OverflowError"
    " RuntimeError NotImplementedError AttributeError StopIteration".split()
)
METHODS = set(
    "append clear copy count endswith extend find get index insert isalnum isalpha isdigit islower isspace isupper items"
    " join keys ljust lower lstrip partition pop remove replace reverse rfind rjust rpartition rsplit rstrip setdefault"
    " split splitlines startswith strip update upper values zfill bit_length".split()
)
CHANGING = set("append clear extend insert pop remove reverse setdefault update".split())
SPECIAL = {"__init__", "__eq__", "__repr__", "__str__", "__len__"}
NEVER = re.compile(
    r"\b(type|typing|typing_extensions|enum|Enum|IntEnum|StrEnum|Flag|IntFlag|Generic|Protocol|ABC|ABCMeta|namedtuple"
    r"|NamedTuple|TypedDict|TYPE_CHECKING|abstractmethod)\b|dataclass|overload|contextmanager"
)
NOT_USED = set("register mro elements open input version_info with_traceback add_note format format_map".split())
NOT_VALUES = set(
    "items keys values pop update append clear extend insert remove reverse setdefault sort args encode format".split()
)
FREE_VALUES = set("count index title find get join lower upper split strip copy add".split())
PYTHONS_OWN = set(dir(str) + dir(int) + dir(list) + dir(dict) + dir(set) + dir(bytes))
WALKED = {"zip", "enumerate", "reversed", "range"}
WALKERS = {"list", "tuple", "dict", "sorted", "sum", "any", "all", "enumerate", "zip", "min", "max"}
READERS = {"len", "list", "tuple", "dict", "sorted", "sum", "any", "all", "min", "max", "enumerate", "zip", "reversed"}
NODES = (
    ast.Module, ast.FunctionDef, ast.Lambda, ast.ClassDef, ast.Return, ast.Assign, ast.AugAssign, ast.For, ast.While,
    ast.If, ast.Raise, ast.Try, ast.ExceptHandler, ast.ImportFrom, ast.alias, ast.Expr, ast.Pass, ast.Break,
    ast.Continue, ast.BoolOp, ast.BinOp, ast.UnaryOp, ast.IfExp, ast.Dict, ast.List, ast.Tuple, ast.Set, ast.ListComp,
    ast.comprehension, ast.Compare, ast.Call, ast.keyword, ast.JoinedStr, ast.FormattedValue, ast.Constant,
    ast.Attribute, ast.Subscript, ast.Slice, ast.Name, ast.arguments, ast.arg, ast.expr_context, ast.boolop,
    ast.operator, ast.unaryop, ast.cmpop,
)


class Source:
    """One file's source, looked at by itself."""

    def __init__(self, text):
        self.text = text
        self.tree = ast.parse(text)
        self.nodes = list(ast.walk(self.tree))
        self.parents = {child: node for node in self.nodes for child in ast.iter_child_nodes(node)}
        self.faults = []
        self.top_names = {}
        for node in self.tree.body:
            if isinstance(node, ast.Assign) and isinstance(node.targets[0], ast.Name):
                self.top_names[node.targets[0].id] = node.value
        self.classes = [node for node in self.nodes if isinstance(node, ast.ClassDef)]
        self.imported = [name.name for node in self.nodes if isinstance(node, ast.ImportFrom) for name in node.names]

    def fault(self, rule, node):
        self.faults.append((rule, getattr(node, "lineno", 0)))

    def unless(self, holds, rule, node):
        if not holds:
            self.fault(rule, node)

    def look(self):
        self.look_at_rows()
        self.look_at_top()
        for node in self.nodes:
            self.unless(isinstance(node, NODES), "L6", node)
            look = getattr(self, "look_at_" + node.__class__.__name__, None)
            if look:
                look(node)
        return self.faults

    def look_at_rows(self):
        rows = self.text.split("\n")
        self.unless(len(rows) <= 401 and all(len(row) <= 120 for row in rows), "L10", None)
        self.unless(all(" " <= sign <= "~" or sign == "\n" for sign in self.text), "L14", None)
        self.unless(not NEVER.search(self.text), "L17", None)
        self.unless(not re.search(r"\\[^nt\\'\"]", self.text), "L27", None)

    def look_at_top(self):
        bound = list(self.imported)
        for place, node in enumerate(self.tree.body):
            if isinstance(node, (ast.FunctionDef, ast.ClassDef)):
                bound.append(node.name)
            elif isinstance(node, ast.Assign):
                bound.append(getattr(node.targets[0], "id", ""))
                self.unless(plain(node.value), "L3", node)
                inner = list(ast.walk(node.value))[1:]
                self.unless(not any(isinstance(one, (ast.List, ast.Dict, ast.Set)) for one in inner), "L15", node)
            else:
                self.unless(isinstance(node, ast.ImportFrom) or docstring(place, node), "L3", node)
        self.unless(len(bound) == len(set(bound)), "L15", None)

    def look_at_Import(self, node):
        self.fault("L2", node)

    def look_at_ImportFrom(self, node):
        self.unless(self.parents[node] is self.tree, "L2", node)
        own = node.level == 0 and node.module.startswith("plainspeak.")
        self.unless(own and all(name.asname is None and name.name != "*" for name in node.names), "L2", node)

    def look_at_FunctionDef(self, node):
        rest = node.args
        self.unless(not (rest.vararg or rest.kwarg or rest.kwonlyargs or rest.posonlyargs), "L4", node)
        self.unless(not node.decorator_list and all(plain(value) for value in rest.defaults), "L4", node)
        self.unless(node.end_lineno - node.lineno < 40, "L10", node)
        self.look_at_bound(node.name, node, isinstance(self.parents[node], ast.ClassDef))
        returns = [one for one in ast.walk(node) if isinstance(one, ast.Return)]
        self.unless(node.name != "__init__" or not returns, "L28", node)

    def look_at_ClassDef(self, node):
        self.unless(self.parents[node] is self.tree, "L15", node)
        self.unless(len(node.bases) <= 1 and not node.keywords and not node.decorator_list, "L5", node)
        self.unless(all(isinstance(one, (ast.FunctionDef, ast.Pass)) for one in node.body), "L5", node)
        names = [one.name for one in node.body if isinstance(one, ast.FunctionDef)]
        self.unless(len(names) == len(set(names)), "L18", node)
        self.look_at_bound(node.name, node, False)

    def look_at_arg(self, node):
        self.unless(node.annotation is None, "L21", node)
        self.look_at_bound(node.arg, node, False)
        self.unless(node.arg not in self.imported + [one.name for one in self.classes], "L15", node)

    def look_at_bound(self, name, node, method):
        special = method and name in SPECIAL
        self.unless(special or re.fullmatch("[A-Za-z][A-Za-z0-9_]*", name), "L12", node)
        self.unless(method or not hasattr(builtins, name), "L15", node)
        self.unless(not method or special or name in METHODS | {"add", "discard"} or name not in PYTHONS_OWN, "L26", node)
        self.unless(name not in NOT_USED, "L17", node)

    def look_at_Name(self, node):
        if isinstance(node.ctx, ast.Load):
            foreign = hasattr(builtins, node.id) and node.id not in CALLS | ERRORS
            self.unless(not foreign, "L8", node)
            call = isinstance(self.parents[node], ast.Call)
            self.unless(node.id not in CALLS or call or isinstance(self.parents[node], (ast.Tuple, ast.keyword)), "L22", node)
            self.look_at_top_use(node)
            return
        self.look_at_bound(node.id, node, False)
        at_top = self.parents.get(self.parents[node]) is self.tree
        names = self.imported + [one.name for one in self.classes] + list(self.top_names)
        self.unless(at_top or node.id not in names, "L15", node)

    def look_at_top_use(self, node):
        if not isinstance(self.top_names.get(node.id), (ast.List, ast.Dict)):
            return
        above = self.parents[node]
        read = isinstance(above, ast.Subscript) and isinstance(above.ctx, ast.Load)
        read = read or isinstance(above, (ast.Compare, ast.For, ast.comprehension))
        read = read or isinstance(above, ast.Call) and getattr(above.func, "id", "") in READERS
        read = read or isinstance(above, ast.Attribute) and above.attr not in CHANGING
        self.unless(read, "L15", node)

    def look_at_Assign(self, node):
        self.unless(len(node.targets) == 1 and not isinstance(node.targets[0], (ast.Tuple, ast.List)), "L6", node)

    def look_at_For(self, node):
        self.unless(not node.orelse, "L6", node)

    look_at_While = look_at_For

    def look_at_Try(self, node):
        self.unless(not node.finalbody and node.handlers, "L6", node)

    def look_at_ExceptHandler(self, node):
        names = [getattr(one, "id", "") for one in ast.walk(node.type)] if node.type else [""]
        self.unless(not set(names) & {"Exception", "TypeError"} and node.type, "L19", node)

    def look_at_Raise(self, node):
        self.unless(isinstance(node.exc, ast.Call), "L19", node)

    def look_at_Expr(self, node):
        call = isinstance(node.value, ast.Call)
        self.unless(call or self.parents[node] is self.tree and docstring(self.tree.body.index(node), node), "L6", node)

    def look_at_Constant(self, node):
        value = node.value
        self.unless(value is None or isinstance(value, (bool, int, str)), "L7", node)
        self.unless(not isinstance(value, str) or "%" not in value, "L27", node)

    def look_at_BinOp(self, node):
        self.unless(not isinstance(node.op, (ast.Div, ast.MatMult)), "L7", node)
        if isinstance(node.op, ast.Pow):
            power = getattr(node.right, "value", -1)
            self.unless(isinstance(power, int) and 0 <= power <= 64, "L27", node)

    def look_at_AugAssign(self, node):
        self.unless(not isinstance(node.op, (ast.Div, ast.MatMult, ast.Pow)), "L7", node)

    def look_at_Set(self, node):
        self.unless(self.parents[node] is not self.tree and isinstance(self.parents[node], ast.Compare), "L24", node)

    def look_at_ListComp(self, node):
        self.unless(len(node.generators) == 1 and len(node.generators[0].ifs) <= 1, "L7", node)

    def look_at_FormattedValue(self, node):
        self.unless(isinstance(node.value, ast.Name) and node.conversion in [-1, 114], "L7", node)
        self.unless(node.format_spec is None, "L7", node)

    def look_at_Compare(self, node):
        sides = [node.left] + node.comparators
        for op, left, right in zip(node.ops, sides, sides[1:]):
            if isinstance(op, (ast.Is, ast.IsNot)):
                known = [isinstance(one, ast.Constant) and one.value in [None, True, False] for one in [left, right]]
                self.unless(any(known), "L20", node)

    def look_at_Attribute(self, node):
        self.unless(not node.attr.startswith("_") or node.attr == "__init__", "L12", node)
        self.unless(node.attr not in NOT_USED, "L17", node)
        if isinstance(node.ctx, ast.Store):
            self.unless(node.attr not in NOT_VALUES, "L26", node)
            self.unless(node.attr in FREE_VALUES or node.attr not in PYTHONS_OWN, "L26", node)
            self.unless(isinstance(node.value, ast.Name) and node.value.id not in self.top_names, "L18", node)

    def look_at_Call(self, node):
        name = getattr(node.func, "id", getattr(node.func, "attr", ""))
        allowed = {"sorted": {"key", "reverse"}, "min": {"key", "default"}, "max": {"key", "default"}, "sum": {"start"},
                   "enumerate": {"start"}, "zip": {"strict"}}.get(name, set())
        foreign = name in METHODS or hasattr(builtins, name)
        self.unless(not foreign or {one.arg for one in node.keywords} <= allowed, "L22", node)
        above = self.parents[node]
        walked = isinstance(above, (ast.For, ast.comprehension))
        walked = walked or isinstance(above, ast.Call) and getattr(above.func, "id", "") in WALKERS
        walked = walked or isinstance(above, ast.Call) and isinstance(getattr(above.func, "value", None), ast.Constant)
        method = isinstance(node.func, ast.Attribute) and name in {"items", "keys", "values"}
        self.unless(walked or not (method or name in WALKED), "L23", node)


def plain(value):
    if isinstance(value, ast.UnaryOp) and isinstance(value.op, ast.USub):
        return isinstance(value.operand, ast.Constant)
    if isinstance(value, (ast.List, ast.Tuple)):
        return all(plain(one) for one in value.elts)
    if isinstance(value, ast.Dict):
        return all(plain(one) for one in value.keys + value.values)
    return isinstance(value, (ast.Constant, ast.Name))


def docstring(place, node):
    return place == 0 and isinstance(node, ast.Expr) and isinstance(getattr(node.value, "value", None), str)


def bound_at_top(tree):
    for node in tree.body:
        if isinstance(node, (ast.FunctionDef, ast.ClassDef)):
            yield node.name
        elif isinstance(node, ast.Assign):
            yield node.targets[0].id


def drawn_from(tree):
    return {node.module.split(".")[1]: [name.name for name in node.names]
            for node in tree.body if isinstance(node, ast.ImportFrom)}


class TestPackage(unittest.TestCase):
    @classmethod
    def setUpClass(cls):
        cls.paths = sorted(path for path in PACKAGE.iterdir() if path.name != "__pycache__")
        cls.sources = {path.stem: Source(path.read_text(encoding="utf-8")) for path in cls.paths}

    def test_files(self):
        for path in self.paths:
            self.assertTrue(path.is_file() and re.fullmatch("[a-z0-9_]+[.]py", path.name), path)
        plain_names = set(self.sources) - {"__init__", "__main__"}
        self.assertEqual([name for name in plain_names if hasattr(builtins, name) or name.startswith("test")], [])
        self.assertIn("__init__", self.sources)

    def test_each_file_keeps_to_the_rules(self):
        for name, source in self.sources.items():
            with self.subTest(file=name):
                self.assertEqual(source.look(), [])

    def test_names_are_drawn_from_where_they_are_defined(self):
        for source in self.sources.values():
            for module, names in drawn_from(source.tree).items():
                self.assertLessEqual(set(names), set(bound_at_top(self.sources[module].tree)))

    def test_no_two_files_draw_from_one_another(self):
        left = {name: set(drawn_from(source.tree)) for name, source in self.sources.items()}
        while left:
            free = [name for name, drawn in left.items() if not drawn & set(left)]
            self.assertTrue(free, left)
            for name in free:
                left.pop(name)

    def test_no_name_is_both_a_method_and_a_value(self):
        methods, values, called = set(), set(), set()
        for source in self.sources.values():
            for node in source.nodes:
                if isinstance(node, ast.FunctionDef) and isinstance(source.parents[node], ast.ClassDef):
                    methods.add(node.name)
                if isinstance(node, ast.Attribute) and isinstance(node.ctx, ast.Store):
                    values.add(node.attr)
                if isinstance(node, ast.Call) and isinstance(node.func, ast.Attribute):
                    called.add(node.func.attr)
        self.assertEqual(methods & values, set())
        self.assertLessEqual(called, methods | METHODS)


class TestTheLook(unittest.TestCase):
    """That the look finds what it looks for."""

    def test_faults(self):
        for rule, text in [
            ("L2", "import sys\n"),
            ("L2", "from sys import path\n"),
            ("L2", "from .errors import BadText\n"),
            ("L2", "from plainspeak.errors import *\n"),
            ("L3", "A = 1 + 1\n"),
            ("L3", "print(1)\n"),
            ("L4", "def f(*a):\n    return a\n"),
            ("L5", "class A:\n    b = 1\n"),
            ("L6", "def f(a):\n    with a:\n        pass\n"),
            ("L6", "def f(a):\n    b = c = a\n"),
            ("L6", "def f(a):\n    'what'\n"),
            ("L7", "A = 1.5\n"),
            ("L7", "def f(a):\n    return a / 2\n"),
            ("L7", "def f(a):\n    return f'{a + 1}'\n"),
            ("L8", "def f(a):\n    return hash(a)\n"),
            ("L10", "def f(a):\n" + "    a += 1\n" * 40),
            ("L12", "def _f(a):\n    return a\n"),
            ("L14", "# \u00e9\n"),
            ("L15", "A = []\nA = []\n"),
            ("L15", "A = []\ndef f():\n    return A\n"),
            ("L15", "A = []\ndef f():\n    A.append(1)\n"),
            ("L15", "def f(id):\n    return 1\n"),
            ("L17", "# a type\n"),
            ("L19", "def f(e):\n    raise e\n"),
            ("L20", "def f(a, b):\n    return a is b\n"),
            ("L22", "def f(a):\n    return a.split(sep='x')\n"),
            ("L23", "def f(a):\n    return range(a)\n"),
            ("L26", "class A:\n    def __init__(self):\n        self.keys = 1\n"),
            ("L27", "A = '%'\n"),
            ("L27", "def f(a):\n    return 2 ** a\n"),
            ("L28", "class A:\n    def __init__(self):\n        return None\n"),
        ]:
            with self.subTest(rule=rule, text=text):
                self.assertIn(rule, [fault[0] for fault in Source(text).look()])


if __name__ == "__main__":
    unittest.main()
