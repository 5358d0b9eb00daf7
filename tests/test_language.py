"""Holds the package's files to the rules of the language document that can be read off a file."""

import ast
import builtins
import pathlib
import re
import unittest

PACKAGE = pathlib.Path(__file__).resolve().parent.parent / "healhalves"

ALLOWED_BUILTINS = set(
    "len range enumerate zip min max sum abs sorted reversed int str bool list tuple dict set frozenset isinstance ord "
    "repr any all divmod Exception ValueError TypeError KeyError IndexError LookupError ZeroDivisionError "
    "ArithmeticError OverflowError RuntimeError NotImplementedError AttributeError StopIteration".split()
)
ALLOWED_METHODS = set(
    "append clear copy count endswith extend find get index insert isalnum isalpha isdigit islower isspace isupper "
    "items join keys ljust lower lstrip partition pop remove replace reverse rfind rjust rpartition rsplit rstrip "
    "setdefault split splitlines startswith strip update upper values zfill bit_length".split()
)
NO_NAMES = set(
    "register mro elements open input version_info with_traceback add_note attrgetter breakpoint builtins compile "
    "copyright credits delattr dir eval exec exit gc getattr globals hasattr help id importlib license locals "
    "methodcaller os quit setattr super type vars sys".split()
)
NO_WORDS = re.compile(
    r"\b(type|typing|typing_extensions|enum|Enum|IntEnum|StrEnum|Flag|IntFlag|Generic|Protocol|ABC|ABCMeta|namedtuple|"
    r"NamedTuple|TypedDict|TYPE_CHECKING|abstractmethod)\b|dataclass|overload|contextmanager"
)
STATEMENTS = (
    ast.Assign, ast.AugAssign, ast.If, ast.While, ast.For, ast.Return, ast.Break, ast.Continue, ast.Pass, ast.Raise,
    ast.Try, ast.FunctionDef, ast.ClassDef, ast.ImportFrom, ast.Expr,
)
EXPRESSIONS = (
    ast.Constant, ast.List, ast.Tuple, ast.Dict, ast.Set, ast.BinOp, ast.UnaryOp, ast.BoolOp, ast.Compare, ast.IfExp,
    ast.Call, ast.Attribute, ast.Subscript, ast.Slice, ast.ListComp, ast.JoinedStr, ast.FormattedValue, ast.Name,
    ast.Lambda,
)
KEYWORDS = {
    "sorted": ("key", "reverse"), "min": ("key", "default"), "max": ("key", "default"), "sum": ("start",),
    "enumerate": ("start",), "zip": ("strict",),
}
WALKED = ("zip", "enumerate", "reversed", "range")
WALKERS = ("list", "tuple", "dict", "sorted", "sum", "any", "all", "enumerate", "zip", "min", "max")


# The names that Python's own texts, numbers, lists, dicts, sets and bytes have.
PYTHONS_OWN = {name for kind in (str, int, list, tuple, dict, set, frozenset, bytes) for name in dir(kind)}
VALUES_ALL_THE_SAME = set("count index title find get join lower upper split strip copy add".split())


class Checker:
    def __init__(self, text, methods=()):
        """The methods are those of all classes of the package."""
        self.text = text
        self.methods = methods
        self.tree = ast.parse(text)
        self.faults = []
        self.above = {child: node for node in ast.walk(self.tree) for child in ast.iter_child_nodes(node)}
        self.docstring = self.tree.body[0] if ast.get_docstring(self.tree) else None
        self.imports = [name.name for row in self.tree.body if isinstance(row, ast.ImportFrom) for name in row.names]

    def fault(self, rule, node):
        self.faults.append((rule, getattr(node, "lineno", node)))

    def check(self):
        self.check_lines()
        self.check_top()
        for node in ast.walk(self.tree):
            self.check_node(node)
        return self.faults

    def check_lines(self):
        lines = self.text.split("\n")
        if len(lines) > 401:
            self.fault("L10", len(lines))
        for number, line in enumerate(lines, start=1):
            if len(line) > 120:
                self.fault("L10", number)
            if not all(" " <= sign <= "~" for sign in line):
                self.fault("L14", number)
            if NO_WORDS.search(line):
                self.fault("L17", number)

    def check_top(self):
        bound = list(self.imports)
        for row in self.tree.body:
            if isinstance(row, (ast.FunctionDef, ast.ClassDef)):
                bound.append(row.name)
            elif isinstance(row, ast.Assign) and isinstance(row.targets[0], ast.Name):
                bound.append(row.targets[0].id)
                inner = [part for part in ast.walk(row.value) if isinstance(part, (ast.List, ast.Dict))]
                if any(part is not row.value for part in inner):
                    self.fault("L15", row)
            elif not isinstance(row, ast.ImportFrom) and row is not self.docstring:
                self.fault("L3", row)
        if len(bound) != len(set(bound)):
            self.fault("L15", 1)

    def check_node(self, node):
        if isinstance(node, ast.stmt) and not isinstance(node, STATEMENTS):
            self.fault("L6", node)
        if isinstance(node, ast.expr) and not isinstance(node, EXPRESSIONS):
            self.fault("L7", node)
        check = getattr(self, "check_" + type(node).__name__, None)
        if check:
            check(node)

    def check_Expr(self, node):
        if not isinstance(node.value, ast.Call) and node is not self.docstring:
            self.fault("L6", node)

    def check_ImportFrom(self, node):
        own = node.module and node.module.startswith("healhalves.") and node.level == 0
        if not own or any(name.name == "*" or name.asname for name in node.names):
            self.fault("L2", node)

    def check_FunctionDef(self, node):
        if node.end_lineno - node.lineno >= 40:
            self.fault("L10", node)
        if node.decorator_list:
            self.fault("L4", node)
        if node.returns:
            self.fault("L21", node)
        self.check_name(node.name, node)
        if node.name == "__init__" and any(isinstance(part, ast.Return) for part in ast.walk(node)):
            self.fault("L28", node)

    def check_arguments(self, node):
        if node.vararg or node.kwarg or node.kwonlyargs or node.posonlyargs:
            self.fault("L4", 1)

    def check_ClassDef(self, node):
        if node.decorator_list or node.keywords or len(node.bases) > 1:
            self.fault("L5", node)
        if not all(isinstance(row, (ast.FunctionDef, ast.Pass)) for row in node.body):
            self.fault("L5", node)
        if node not in self.tree.body:
            self.fault("L15", node)
        names = [row.name for row in node.body if isinstance(row, ast.FunctionDef)]
        if len(names) != len(set(names)):
            self.fault("L18", node)
        for name in [name for name in names if not name.startswith("__")]:
            if name in PYTHONS_OWN and name not in ALLOWED_METHODS and name not in ("add", "discard"):
                self.fault("L26", node)

    def check_arg(self, node):
        self.check_local(node.arg, node)
        if node.annotation:
            self.fault("L21", node)

    def check_Name(self, node):
        self.check_name(node.id, node)
        if isinstance(node.ctx, ast.Store):
            self.check_local(node.id, node)
        elif hasattr(builtins, node.id) and node.id not in ALLOWED_BUILTINS:
            self.fault("L8", node)

    def check_local(self, name, node):
        if hasattr(builtins, name) or name in self.imports:
            self.fault("L15", node)
        self.check_name(name, node)

    def check_name(self, name, node):
        dunder = name in ("__init__", "__eq__", "__repr__", "__str__", "__len__")
        if not dunder and not re.fullmatch(r"[A-Za-z][A-Za-z0-9_]*", name):
            self.fault("L12", node)
        if name in NO_NAMES:
            self.fault("L17", node)

    def check_Attribute(self, node):
        own = isinstance(node.value, ast.Name) and node.value.id == "self"
        if not own and node.attr not in ALLOWED_METHODS and node.attr not in self.methods:
            self.fault("L25", node)
        if isinstance(node.ctx, ast.Store):
            if not isinstance(node.value, ast.Name):
                self.fault("L18", node)
            if node.attr in PYTHONS_OWN and node.attr not in VALUES_ALL_THE_SAME:
                self.fault("L26", node)
        if node.attr in ("items", "keys", "values"):
            self.check_walked(self.above[node])

    def check_Call(self, node):
        if isinstance(node.func, ast.Name) and node.func.id in WALKED:
            self.check_walked(node)
        if isinstance(node.func, ast.Name) and node.func.id == "set":
            above = self.above[node]
            beside = isinstance(above, (ast.Compare, ast.BinOp))
            within = isinstance(above, ast.Call) and getattr(above.func, "id", "") in ("sorted", "len")
            if not beside and not within:
                self.fault("L24", node)
        if any(isinstance(part, ast.Starred) for part in node.args):
            self.fault("L7", node)
        called = getattr(node.func, "id", "")
        if called in ALLOWED_BUILTINS or isinstance(node.func, ast.Attribute):
            if any(part.arg not in KEYWORDS.get(called, ()) for part in node.keywords):
                self.fault("L22", node)

    def check_walked(self, node):
        above = self.above[node]
        looped = isinstance(above, (ast.For, ast.comprehension)) and above.iter is node
        handed = isinstance(above, ast.Call) and getattr(above.func, "id", "") in WALKERS
        joined = isinstance(above, ast.Call) and getattr(above.func, "attr", "") == "join"
        if not (looped or handed or joined):
            self.fault("L23", node)

    def check_Assign(self, node):
        if len(node.targets) != 1:
            self.fault("L6", node)

    def check_ListComp(self, node):
        if len(node.generators) != 1 or len(node.generators[0].ifs) > 1:
            self.fault("L7", node)

    def check_For(self, node):
        if node.orelse:
            self.fault("L6", node)

    check_While = check_For

    def check_Try(self, node):
        if node.finalbody:
            self.fault("L6", node)

    def check_ExceptHandler(self, node):
        if getattr(node.type, "id", "Exception") in ("Exception", "TypeError"):
            self.fault("L19", node)

    def check_Raise(self, node):
        handlers = [above for above in self.all_above(node) if isinstance(above, ast.ExceptHandler)]
        names = [handler.name for handler in handlers]
        known = node.cause is None or getattr(node.cause, "id", None) in names or getattr(node.cause, "value", 0) is None
        if not isinstance(node.exc, ast.Call) or not known:
            self.fault("L19", node)

    def all_above(self, node):
        while node in self.above:
            node = self.above[node]
            yield node

    def check_BinOp(self, node):
        if isinstance(node.op, (ast.Div, ast.MatMult)):
            self.fault("L7", node)
        if isinstance(node.op, ast.Pow) and not isinstance(node.right, ast.Constant):
            self.fault("L27", node)

    def check_Constant(self, node):
        if isinstance(node.value, (float, complex, bytes)):
            self.fault("L7", node)
        if isinstance(node.value, str) and "%" in node.value:
            self.fault("L27", node)

    def check_Compare(self, node):
        for operator, right in zip(node.ops, node.comparators):
            plain = isinstance(right, ast.Constant) and str(right.value) in ("None", "True", "False")
            if isinstance(operator, (ast.Is, ast.IsNot)) and not plain:
                self.fault("L20", node)


def class_parts(tree):
    """The methods and the values of all classes of a file."""
    methods, values = set(), set()
    for one in [row for row in tree.body if isinstance(row, ast.ClassDef)]:
        methods |= {row.name for row in one.body if isinstance(row, ast.FunctionDef)}
        values |= {
            node.attr for node in ast.walk(one) if isinstance(node, ast.Attribute) and isinstance(node.ctx, ast.Store)
        }
    return methods, values


def package_parts():
    parts = [class_parts(ast.parse(path.read_text("ascii"))) for path in PACKAGE.glob("*.py")]
    return set().union(*[part[0] for part in parts]), set().union(*[part[1] for part in parts])


def drawn_from(path):
    tree = ast.parse(path.read_text("ascii"))
    return [row.module.split(".")[-1] for row in tree.body if isinstance(row, ast.ImportFrom)]


class PackageTest(unittest.TestCase):
    def test_only_plain_files_lie_in_the_package(self):
        for path in PACKAGE.iterdir():
            if path.name != "__pycache__":
                self.assertRegex(path.name, r"\A([a-z][a-z0-9_]*|__init__)\.py\Z")
                self.assertNotIn(path.stem, NO_NAMES)
                self.assertFalse(path.stem.startswith("test"), path.name)
                self.assertTrue(path.stem == "__init__" or not hasattr(builtins, path.stem), path.name)

    def test_each_file_keeps_to_the_rules(self):
        methods, _ = package_parts()
        for path in sorted(PACKAGE.glob("*.py")):
            self.assertEqual(Checker(path.read_text("ascii"), methods).check(), [], path.name)

    def test_no_name_is_a_method_here_and_a_value_there(self):
        methods, values = package_parts()
        self.assertIn("hear", methods)
        self.assertIn("heard", values)
        self.assertEqual(methods & values, set())

    def test_each_name_is_drawn_from_the_file_that_defines_it_and_is_used(self):
        for path in sorted(PACKAGE.glob("*.py")):
            tree = ast.parse(path.read_text("ascii"))
            used = {node.id for node in ast.walk(tree) if isinstance(node, ast.Name)}
            for row in [row for row in tree.body if isinstance(row, ast.ImportFrom)]:
                source = ast.parse((PACKAGE / (row.module.split(".")[-1] + ".py")).read_text("ascii"))
                defined = [part.name for part in source.body if isinstance(part, (ast.FunctionDef, ast.ClassDef))]
                defined += [part.targets[0].id for part in source.body if isinstance(part, ast.Assign)]
                for name in row.names:
                    self.assertIn(name.name, defined, path.name)
                    self.assertIn(name.name, used, path.name)

    def test_no_two_files_draw_from_one_another(self):
        draws = {path.stem: drawn_from(path) for path in PACKAGE.glob("*.py")}
        while draws:
            free = [name for name in draws if not any(other in draws for other in draws[name])]
            self.assertTrue(free, f"a ring among {sorted(draws)}")
            for name in free:
                draws.pop(name)


class CheckerTest(unittest.TestCase):
    """The checker itself sees what it is there for."""

    def test_faults_are_seen(self):
        for rule, text in (
            ("L6", "import os\n"), ("L2", "from os import path\n"), ("L2", "from .errors import NoSize\n"),
            ("L3", "print(1)\n"), ("L4", "def f(*parts):\n    return parts\n"), ("L5", "class A:\n    b = 1\n"),
            ("L6", "def f():\n    assert True\n"), ("L6", "def f():\n    a = b = 1\n"), ("L7", "def f(a):\n    return a / 2\n"),
            ("L7", "def f(a):\n    return {b for b in a}\n"), ("L8", "def f(a):\n    return hash(a)\n"),
            ("L10", "A = 1\n" * 500), ("L12", "def f():\n    _ = 1\n"), ("L14", "# \u00e4\n"),
            ("L15", "def f(min):\n    return min\n"), ("L15", "A = 1\nA = 2\n"), ("L15", "A = [[1]]\n"),
            ("L17", "# a type\n"), ("L20", "def f(a):\n    return a is a\n"), ("L21", "def f(a: int):\n    return a\n"),
            ("L22", "def f(a):\n    return int(a, base=2)\n"), ("L22", "def f(a):\n    return a.split(sep=' ')\n"),
            ("L23", "def f(a):\n    b = zip(a, a)\n    return list(b)\n"), ("L24", "def f(a):\n    b = set(a)\n"),
            ("L18", "class A:\n    def f(self):\n        pass\n    def f(self):\n        pass\n"),
            ("L19", "def f(a):\n    raise a\n"), ("L19", "def f(a):\n    raise ValueError(a) from a\n"),
            ("L25", "def f(a):\n    return a.hear()\n"), ("L26", "class A:\n    def sort(self):\n        pass\n"),
            ("L26", "class A:\n    def __init__(self):\n        self.items = 1\n"),
            ("L28", "class A:\n    def __init__(self):\n        return None\n"),
            ("L25", "def f(a):\n    a.sort()\n"), ("L27", "def f(a):\n    return 2 ** a\n"), ("L27", "A = '%'\n"),
        ):
            self.assertIn(rule, [fault[0] for fault in Checker(text).check()], text)


if __name__ == "__main__":
    unittest.main()
