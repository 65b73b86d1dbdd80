"""Checks the files of the package against those rules of the language that a short program can see."""

import ast
import builtins
import io
import pathlib
import re
import tokenize
import unittest
import warnings

PACKAGE = pathlib.Path(__file__).resolve().parent.parent / "sayso"

LIBRARY = {
    "heapq": {"heappush", "heappop", "heapify", "heapreplace", "heappushpop"},
    "math": {"gcd", "lcm", "isqrt", "comb", "perm", "factorial"},
    "itertools": {"product", "combinations", "permutations", "chain", "accumulate", "pairwise", "islice", "zip_longest"},
    "collections": {"defaultdict"},
}
CALLED = set("len range enumerate zip min max sum abs sorted reversed int str bool list tuple dict set frozenset isinstance "
             "ord repr any all divmod pow map iter next".split())
ERRORS = set("Exception ValueError TypeError KeyError IndexError LookupError ZeroDivisionError ArithmeticError "
             "OverflowError RuntimeError NotImplementedError StopIteration".split())
CLASSES = set("int str bool bytes list tuple dict".split())
METHODS = set("append clear copy count endswith extend find get index insert isalnum isalpha isdigit islower isspace isupper "
              "items join keys ljust lower lstrip partition pop remove replace reverse rfind rjust rpartition rsplit rstrip "
              "setdefault split splitlines startswith strip update upper values zfill bit_length add discard".split())
NOWHERE = {"register", "mro", "elements", "open", "input", "law", "version_info", "with_traceback", "add_note"}
BARRED = re.compile(r"\b(type|typing|typing_extensions|enum|Enum|IntEnum|StrEnum|Flag|IntFlag|Generic|Protocol|ABC|ABCMeta|"
                    r"namedtuple|NamedTuple|TypedDict|TYPE_CHECKING|abstractmethod)\b|dataclass|overload|contextmanager|"
                    r"_wall|_WallAttr")
DOUBLE = set("__init__ __eq__ __repr__ __str__ __len__ __enter__ __exit__ __call__ __iter__".split())
NODES = (ast.Global, ast.AsyncFunctionDef, ast.AsyncFor, ast.AsyncWith, ast.Await, ast.GeneratorExp, ast.Div, ast.Import)
AT_ONCE = {"zip", "enumerate", "reversed", "range", "items", "keys", "values", "map"}
TAKERS = {"list", "tuple", "dict", "sorted", "sum", "any", "all", "enumerate", "zip", "min", "max", "join"}


def module_names(tree):
    """The names that a file binds at module level, imports left out."""
    names = []
    for node in tree.body:
        if isinstance(node, (ast.FunctionDef, ast.ClassDef)):
            names.append(node.name)
        if isinstance(node, ast.Assign):
            names.extend(target.id for target in node.targets if isinstance(target, ast.Name))
    return names


def imported(tree):
    return [alias.name for node in tree.body if isinstance(node, ast.ImportFrom) for alias in node.names]


def methods_of(tree):
    return {part.name for node in tree.body if isinstance(node, ast.ClassDef)
            for part in node.body if isinstance(part, ast.FunctionDef)}


def is_plain(node):
    """Whether a value at module level is plain; a name in it may stand for a function."""
    if isinstance(node, (ast.List, ast.Tuple)):
        return all(is_plain(part) for part in node.elts)
    if isinstance(node, ast.Dict):
        return all(is_plain(part) for part in node.keys + node.values)
    if isinstance(node, ast.BinOp):
        return is_plain(node.left) and is_plain(node.right)
    return isinstance(node, (ast.Constant, ast.Name, ast.UnaryOp))


class Check:
    """The faults of one file."""

    def __init__(self, name, text, others):
        self.name, self.text, self.others = name, text, others
        self.tree = ast.parse(text)
        self.faults = []
        self.above = {part: node for node in ast.walk(self.tree) for part in ast.iter_child_nodes(node)}
        self.own_methods = set().union(*(methods_of(tree) for tree in others.values()), methods_of(self.tree))
        self.look_at_lines()
        self.look_at_module()
        for node in ast.walk(self.tree):
            self.look_at(node)

    def fault(self, rule, node):
        self.faults.append(f"{self.name}:{getattr(node, 'lineno', 0)}: {rule}")

    def look_at_lines(self):
        lines = self.text.split("\n")
        if len(lines) > 400:
            self.faults.append(f"{self.name}: L10 file")
        for number, line in enumerate(lines, 1):
            if len(line) > 120:
                self.faults.append(f"{self.name}:{number}: L10 line")
            if any(not " " <= sign <= "~" for sign in line):
                self.faults.append(f"{self.name}:{number}: L14 character")
        for token in tokenize.generate_tokens(io.StringIO(self.text).readline):
            if token.type != tokenize.COMMENT and not token.string.startswith('"""') and BARRED.search(token.string):
                self.faults.append(f"{self.name}:{token.start[0]}: L17 word")

    def look_at_module(self):
        body = self.tree.body
        past_imports = False
        for place, node in enumerate(body):
            if isinstance(node, ast.ImportFrom):
                if past_imports:
                    self.fault("L2 place", node)
                self.look_at_import(node)
                continue
            if isinstance(node, ast.Expr) and place == 0 and isinstance(node.value, ast.Constant):
                continue
            past_imports = True
            if isinstance(node, ast.Assign):
                if len(node.targets) != 1 or not isinstance(node.targets[0], ast.Name) or not is_plain(node.value):
                    self.fault("L3 value", node)
                parts = list(ast.walk(node.value))[1:]
                if any(isinstance(part, (ast.List, ast.Dict)) for part in parts):
                    self.fault("L15 nested", node)
            elif not isinstance(node, (ast.FunctionDef, ast.ClassDef)):
                self.fault("L3", node)
        names = module_names(self.tree) + imported(self.tree)
        for name in names:
            if names.count(name) > 1:
                self.fault(f"L15 {name} twice", self.tree)

    def look_at_import(self, node):
        if node.level or any(alias.asname or alias.name == "*" for alias in node.names):
            self.fault("L2 form", node)
        if node.module in LIBRARY:
            if any(alias.name not in LIBRARY[node.module] for alias in node.names):
                self.fault("L2 library", node)
        elif node.module not in self.others:
            self.fault("L2 module", node)
        elif any(alias.name not in module_names(self.others[node.module]) for alias in node.names):
            self.fault("L16 defining file", node)

    def look_at(self, node):
        if isinstance(node, NODES):
            self.fault(f"node {type(node).__name__}", node)
        look = getattr(self, "at_" + type(node).__name__, None)
        if look is not None:
            look(node)

    def at_FunctionDef(self, node):
        if node.end_lineno - node.lineno + 1 > 40:
            self.fault("L10 function", node)
        if node.decorator_list:
            self.fault("L4 decorator", node)
        self.bind(node.name, node, isinstance(self.above[node], ast.ClassDef))

    def at_ClassDef(self, node):
        if node.decorator_list:
            self.fault("L5 decorator", node)
        self.bind(node.name, node)

    def at_arg(self, node):
        self.bind(node.arg, node)
        if node.arg in imported(self.tree):
            self.fault("L15 import", node)

    def bind(self, name, node, method=False):
        if name in NOWHERE or (name.startswith("__") and not (method and name in DOUBLE)) or not name.isascii():
            self.fault(f"L12 or L17 {name}", node)
        if name in dir(builtins) and not method:
            self.fault(f"L15 {name}", node)

    def at_Name(self, node):
        outer = self.above[node]
        if isinstance(node.ctx, ast.Store):
            self.bind(node.id, node)
            if node.id in imported(self.tree):
                self.fault("L15 import", node)
        elif node.id in dir(builtins):
            called = isinstance(outer, ast.Call) and outer.func is node and node.id in CALLED
            in_isinstance = node.id in CLASSES and any(
                isinstance(way, ast.Call) and isinstance(way.func, ast.Name) and way.func.id == "isinstance"
                for way in (outer, self.above.get(outer)))
            as_key = isinstance(outer, ast.keyword) and outer.arg == "key"
            as_map = isinstance(outer, ast.Call) and isinstance(outer.func, ast.Name) and outer.func.id == "map"
            if not (called or in_isinstance or as_key or as_map or node.id in ERRORS):
                self.fault(f"L8 {node.id}", node)

    def at_Attribute(self, node):
        if node.attr in NOWHERE or node.attr.startswith("__"):
            self.fault(f"L17 {node.attr}", node)

    def at_Call(self, node):
        name = getattr(node.func, "id", getattr(node.func, "attr", ""))
        if isinstance(node.func, ast.Attribute) and name not in METHODS | self.own_methods:
            self.fault(f"L25 {name}", node)
        if name in AT_ONCE and not self.goes_at_once(node):
            self.fault(f"L23 {name}", node)
        if name in ("set", "frozenset"):
            self.look_at_set(node)

    def goes_at_once(self, node):
        outer = self.above[node]
        if isinstance(outer, (ast.For, ast.comprehension)) and outer.iter is node:
            return True
        return isinstance(outer, ast.Call) and getattr(outer.func, "id", getattr(outer.func, "attr", "")) in TAKERS

    def look_at_set(self, node):
        outer = self.above[node]
        if isinstance(outer, ast.Call) and getattr(outer.func, "id", "") in ("len", "sorted") and not outer.keywords:
            return
        if isinstance(outer, (ast.Compare, ast.BinOp)) or (isinstance(outer, ast.Assign) and outer.value is node):
            return
        self.fault("L24", node)

    def at_Set(self, node):
        self.look_at_set(node)

    def at_SetComp(self, node):
        self.look_at_set(node)

    def at_BinOp(self, node):
        if isinstance(node.op, ast.Pow) and not isinstance(node.right, ast.Constant):
            self.fault("L27 exponent", node)

    def at_Compare(self, node):
        for op, right in zip(node.ops, node.comparators):
            if isinstance(op, (ast.Is, ast.IsNot)) and not (isinstance(right, ast.Constant) and right.value in (None, True, False)):
                self.fault("L20", node)

    def at_Constant(self, node):
        if isinstance(node.value, (float, complex)) or node.value is ...:
            self.fault("L7 value", node)
        if isinstance(node.value, str) and ("%" in node.value or node.value.endswith(("._", ".__"))):
            self.fault("L27 string", node)

    def at_ExceptHandler(self, node):
        if node.type is None or any(isinstance(part, ast.Name) and part.id in ERRORS - {"KeyError", "ZeroDivisionError"}
                                    for part in ast.walk(node.type)):
            self.fault("L19 caught", node)


def trees():
    found = {}
    for path in sorted(PACKAGE.rglob("*.py")):
        name = ".".join(path.relative_to(PACKAGE.parent).with_suffix("").parts)
        found[name] = ast.parse(path.read_text())
    return found


def tables_of(tree):
    """The names of the lists and dicts at module level."""
    return {node.targets[0].id for node in tree.body
            if isinstance(node, ast.Assign) and isinstance(node.value, (ast.List, ast.Dict))}


def uses_of_tables(tree, tables):
    """The lines in which a list or dict of a module level is used otherwise than by reading it."""
    above = {part: node for node in ast.walk(tree) for part in ast.iter_child_nodes(node)}
    found = []
    for node in ast.walk(tree):
        if isinstance(node, ast.Name) and node.id in tables and isinstance(node.ctx, ast.Load):
            outer = above[node]
            read = isinstance(outer, (ast.Subscript, ast.Attribute, ast.Compare, ast.For, ast.comprehension))
            copied = isinstance(outer, ast.Call) and getattr(outer.func, "id", "") in ("len", "list", "dict", "sorted")
            if not read and not copied:
                found.append(node.lineno)
    return found


def names_both_ways(found):
    """The names that are methods of one class and attributes of another one."""
    methods, attributes = set(), set()
    for tree in found:
        for node in ast.walk(tree):
            if isinstance(node, ast.ClassDef):
                methods.update(part.name for part in node.body if isinstance(part, ast.FunctionDef))
            if isinstance(node, ast.Attribute) and isinstance(node.ctx, ast.Store):
                attributes.add(node.attr)
    return methods & attributes


def faults_of(text):
    return Check("a text", text, trees()).faults


class TestPackage(unittest.TestCase):
    def test_files(self):
        for path in PACKAGE.rglob("*"):
            if "__pycache__" not in path.parts and path.is_file():
                self.assertRegex(path.name, r"\A(__init__|__main__|[a-z][a-z0-9_]*)\.py\Z")
        self.assertTrue((PACKAGE / "__init__.py").is_file())

    def test_rules(self):
        others = trees()
        for path in sorted(PACKAGE.rglob("*.py")):
            with self.subTest(path.name):
                self.assertEqual(Check(path.name, path.read_text(), others).faults, [])

    def test_tables_are_only_read(self):
        tables = set().union(*(tables_of(tree) for tree in trees().values()))
        for name, tree in trees().items():
            self.assertEqual(uses_of_tables(tree, tables), [], name)

    def test_methods_and_attributes_have_other_names(self):
        self.assertEqual(names_both_ways(trees().values()), set())

    def test_no_warnings(self):
        for path in sorted(PACKAGE.rglob("*.py")):
            with warnings.catch_warnings():
                warnings.simplefilter("error")
                compile(path.read_text(), path.name, "exec")

    def test_no_circle_of_imports(self):
        needs = {name: [node.module for node in tree.body if isinstance(node, ast.ImportFrom)]
                 for name, tree in trees().items()}
        done = set()
        while len(done) < len(needs):
            ready = [name for name in needs if name not in done
                     and all(other in done or other not in needs for other in needs[name])]
            self.assertTrue(ready, sorted(set(needs) - done))
            done.update(ready)


class TestCheck(unittest.TestCase):
    def test_faults_are_found(self):
        for text in ["import sys\n", "from os import path\n", "from .errors import BadText\n", "x = 1.0\n", "x = [[1]]\n",
                     "from sayso.structures import BadText\n", "x = 1\nx = 2\n", "print(1)\n", "x = '\u00e9'\n",
                     "def f(xs):\n    return any(x for x in xs)\n", "def f(x):\n    return x / 2\n",
                     "def f(x):\n    return type(x)\n", "def f(list):\n    return 1\n", "def f(x):\n    y = range(x)\n",
                     "def f(x):\n    return {1, x}\n", "def f(x):\n    return x.format(1)\n", "def f(x):\n    x.sort()\n",
                     "def f(x, y):\n    return x ** y\n", "def f(x):\n    return x is f\n", "def f(elements):\n    pass\n",
                     "def f():\n    global x\n", "@f\ndef g():\n    pass\n", "def f(x):\n    return '%'\n",
                     "def f():\n    try:\n        pass\n    except ValueError:\n        pass\n",
                     "def f():\n" + "    pass\n" * 40, "x = 1\n" + "# " + "x" * 120 + "\n", "x = 'enum'\n"]:
            with self.subTest(text):
                self.assertTrue(faults_of(text))

    def test_uses_of_tables_are_found(self):
        for text, many in [("f(T)", 1), ("x = T", 1), ("x = [T]", 1), ("x = T[1]", 0), ("x = T.get(1)", 0), ("x = 1 in T", 0), ("x = len(T)", 0),
                           ("for x in T:\n    pass", 0), ("x = [y for y in T]", 0)]:
            self.assertEqual(len(uses_of_tables(ast.parse(text), {"T"})), many, text)

    def test_names_both_ways_are_found(self):
        text = "class A:\n    def f(self):\n        self.g = 1\n\n\nclass B:\n    def g(self):\n        self.h = 1\n"
        self.assertEqual(names_both_ways([ast.parse(text)]), {"g"})

    def test_what_is_allowed(self):
        for text in ["from sayso.errors import BadText\nX = (1, 'a')\n\n\ndef f(x):\n    raise BadText('no')\n",
                     "def f(xs):\n    return len(set(xs)) == len({x for x in xs})\n",
                     "def f(xs):\n    return [x for x in range(3)] + list(zip(xs, xs))\n",
                     "def f(x):\n    return isinstance(x, (list, tuple)) and x is not None\n"]:
            with self.subTest(text):
                self.assertEqual(faults_of(text), [])


if __name__ == "__main__":
    unittest.main()
