"""Looks at the package's own files: whether they keep to the part of Python that the program is held to.

Not every rule can be seen from outside; these are the ones that a look at the written code can tell.
"""

import ast
import builtins
import pathlib
import re
import unittest

PACKAGE = pathlib.Path(__file__).resolve().parent.parent / "blotsure"

BUILT_IN = set(
    "len range enumerate zip min max sum abs sorted reversed int str bool list tuple dict set frozenset"
    " isinstance ord repr any all divmod Exception ValueError TypeError KeyError IndexError LookupError"
    " ZeroDivisionError ArithmeticError OverflowError RuntimeError NotImplementedError AttributeError"
    " StopIteration".split()
)
METHODS = set(
    "append clear copy count endswith extend find get index insert isalnum isalpha isdigit islower isspace"
    " isupper items join keys ljust lower lstrip partition pop remove replace reverse rfind rjust rpartition"
    " rsplit rstrip setdefault split splitlines startswith strip update upper values zfill bit_length".split()
)
OUT_OF_THE_LANGUAGE = (
    ast.With, ast.Match, ast.Delete, ast.Global, ast.Nonlocal, ast.Assert, ast.Yield, ast.YieldFrom, ast.Await,
    ast.AsyncFunctionDef, ast.AsyncFor, ast.AsyncWith, ast.SetComp, ast.DictComp, ast.GeneratorExp,
    ast.NamedExpr, ast.Starred, ast.Div, ast.MatMult, ast.Import, ast.AnnAssign,
)
WORDS = re.compile(
    r"\b(type|typing|typing_extensions|enum|Enum|IntEnum|StrEnum|Flag|IntFlag|Generic|Protocol|ABC|ABCMeta"
    r"|namedtuple|NamedTuple|TypedDict|TYPE_CHECKING|abstractmethod)\b|dataclass|overload|contextmanager"
)
PLAIN_NAME = re.compile(r"[A-Za-z][A-Za-z0-9_]*")
DOUBLE = {"__init__", "__eq__", "__repr__", "__str__", "__len__"}


def faults_of_text(text):
    faults = []
    for number, line in enumerate(text.split("\n"), start=1):
        if len(line) > 120:
            faults.append(f"L10 line {number} is too long")
        if re.search(r"[^ -~]", line):
            faults.append(f"L14 line {number} has another sign")
        if WORDS.search(line):
            faults.append(f"L17 line {number} has a word that stands nowhere")
    if text.count("\n") > 400:
        faults.append("L10 the file is too long")
    return faults


def names_bound(node):
    if isinstance(node, (ast.FunctionDef, ast.ClassDef)):
        return [node.name]
    if isinstance(node, ast.arg):
        return [node.arg]
    if isinstance(node, ast.Name) and isinstance(node.ctx, ast.Store):
        return [node.id]
    return []


def fault_of_node(node, own):
    for name in names_bound(node):
        if hasattr(builtins, name) and name not in DOUBLE:
            return "L15 a name of Python's own is bound"
        if not PLAIN_NAME.fullmatch(name) and name not in DOUBLE:
            return "L12 a name is not plain"
    if isinstance(node, OUT_OF_THE_LANGUAGE):
        return "L6, L7 or L16 does not know this"
    if isinstance(node, ast.Name) and hasattr(builtins, node.id) and node.id not in BUILT_IN:
        return "L8 does not list this name"
    if isinstance(node, ast.Attribute) and node.attr not in METHODS | own:
        return "L25 does not list this method"
    if isinstance(node, ast.ImportFrom) and (node.level or not node.module.startswith("blotsure.")):
        return "L2 imports the package's own alone"
    if isinstance(node, ast.FunctionDef) and node.end_lineno - node.lineno + 1 > 40:
        return "L10 the function is too long"
    if isinstance(node, (ast.FunctionDef, ast.ClassDef)) and node.decorator_list:
        return "L4 and L5 have no decorator"
    if isinstance(node, (ast.For, ast.While)) and node.orelse:
        return "L6 has no else behind a loop"
    if isinstance(node, ast.Try) and node.finalbody:
        return "L6 has no finally"
    if isinstance(node, ast.Assign) and len(node.targets) > 1:
        return "L6 has one target"
    if isinstance(node, ast.Constant) and isinstance(node.value, (float, complex, bytes)):
        return "L7 does not know this value"
    return fault_of_form(node)


def fault_of_form(node):
    if isinstance(node, ast.ListComp) and (len(node.generators) > 1 or len(node.generators[0].ifs) > 1):
        return "L7 has one for and at most one if"
    if isinstance(node, ast.FormattedValue) and not isinstance(node.value, ast.Name):
        return "L7 has plain names in f-strings"
    if isinstance(node, ast.Compare) and any(isinstance(op, (ast.Is, ast.IsNot)) for op in node.ops):
        sides = [node.left] + node.comparators
        if not any(isinstance(side, ast.Constant) and side.value in (None, True, False) for side in sides):
            return "L20 has `is` beside None, True and False alone"
    if isinstance(node, ast.Constant) and isinstance(node.value, str) and "%" in node.value:
        return "L27 has no such sign in a text"
    if isinstance(node, ast.BinOp) and isinstance(node.op, ast.Pow) and not isinstance(node.right, ast.Constant):
        return "L27 has written exponents"
    return None


WALKED = {"zip", "enumerate", "reversed", "range"}
WALKED_METHODS = {"items", "keys", "values"}
WALKERS = {"list", "tuple", "dict", "sorted", "sum", "any", "all", "enumerate", "zip"}


def name_called(node):
    if isinstance(node, ast.Call) and isinstance(node.func, ast.Name):
        return node.func.id
    return None


def is_walk(node):
    if isinstance(node, ast.Call) and isinstance(node.func, ast.Attribute):
        return node.func.attr in WALKED_METHODS
    return name_called(node) in WALKED


def walked_at_once(node):
    """What stands straight in this node where a walk may stand."""
    if isinstance(node, (ast.For, ast.comprehension)):
        return [node.iter]
    if name_called(node) in WALKERS or name_called(node) in ("min", "max") and len(node.args) == 1:
        return node.args[:1]
    if isinstance(node, ast.Call) and isinstance(node.func, ast.Attribute) and node.func.attr == "join":
        return node.args[:1]
    return []


def set_on_the_spot(node):
    """What stands straight in this node where a set may stand."""
    if isinstance(node, ast.Compare) and isinstance(node.ops[0], (ast.In, ast.NotIn, ast.Eq, ast.NotEq)):
        return [node.left] + node.comparators
    if name_called(node) in ("sorted", "len") and not node.keywords:
        return node.args[:1]
    if isinstance(node, ast.BinOp):
        return [node.left, node.right]
    return []


def faults_of_places(tree):
    nodes = list(ast.walk(tree))
    walks = [id(part) for node in nodes for part in walked_at_once(node)]
    sets = [id(part) for node in nodes for part in set_on_the_spot(node)]
    faults = []
    for node in nodes:
        if is_walk(node) and id(node) not in walks:
            faults.append(f"L23 is not walked on the spot, line {node.lineno}")
        if (name_called(node) == "set" or isinstance(node, ast.Set)) and id(node) not in sets:
            faults.append(f"L24 a set is kept or walked, line {node.lineno}")
        if isinstance(node, ast.arguments) and (node.vararg or node.kwarg or node.kwonlyargs or node.posonlyargs):
            faults.append("L4 has plain parameters")
        if isinstance(node, ast.ExceptHandler):
            taken = [] if node.type is None else [part.id for part in ast.walk(node.type) if isinstance(part, ast.Name)]
            if not taken or set(taken) & {"Exception", "TypeError"}:
                faults.append(f"L19 does not take this, line {node.lineno}")
    return faults


def imports_of(tree):
    """The pairs (module, name) that a file imports."""
    rows = [node for node in tree.body if isinstance(node, ast.ImportFrom)]
    return [(row.module, part.name) for row in rows for part in row.names]


def faults_of_locals(tree):
    taken = {name for _, name in imports_of(tree)}
    taken |= {node.name for node in tree.body if isinstance(node, ast.ClassDef)}
    faults = []
    for top in tree.body:
        for node in ast.walk(top):
            if isinstance(node, (ast.arg, ast.Name)) and set(names_bound(node)) & taken:
                faults.append(f"L15 a local is called like an import or a class, line {node.lineno}")
    return faults


def names_at_the_top(tree):
    names = []
    for node in tree.body:
        names.extend(name for target in getattr(node, "targets", [node]) for name in names_bound(target))
    return names


def is_plain(value, functions):
    """A value for a file's top: numbers, texts, truths, None, functions above, and lists, tuples and dicts of these."""
    if isinstance(value, ast.Dict):
        return all(is_plain(part, functions) for part in value.keys + value.values)
    if isinstance(value, (ast.List, ast.Tuple)):
        return all(is_plain(part, functions) for part in value.elts)
    return isinstance(value, ast.Constant) or isinstance(value, ast.Name) and value.id in functions


def faults_of_top(tree):
    faults = []
    functions = []
    for place, node in enumerate(tree.body):
        if isinstance(node, ast.FunctionDef):
            functions.append(node.name)
        elif isinstance(node, ast.ClassDef):
            if not all(isinstance(part, (ast.FunctionDef, ast.Pass)) for part in node.body) or len(node.bases) > 1:
                faults.append(f"L5 has methods and one base alone, line {node.lineno}")
        elif isinstance(node, ast.Assign):
            if not is_plain(node.value, functions):
                faults.append(f"L3 has plain values at the top, line {node.lineno}")
        elif not isinstance(node, ast.ImportFrom) and not (place == 0 and ast.get_docstring(tree) is not None):
            faults.append(f"L3 does not have this at the top, line {node.lineno}")
    return faults


def own_attributes(tree):
    """What the classes of a file have of their own: their methods, and the values given to self."""
    own = set()
    for node in ast.walk(tree):
        if isinstance(node, ast.Attribute) and isinstance(node.ctx, ast.Store):
            own.add(node.attr)
        if isinstance(node, ast.ClassDef):
            own.update(part.name for part in node.body if isinstance(part, ast.FunctionDef))
    return own


def faults_of_tree(tree, own):
    faults = []
    for node in ast.walk(tree):
        fault = fault_of_node(node, own)
        if fault is not None:
            faults.append(f"{fault}, line {node.lineno if hasattr(node, 'lineno') else 'unknown'}")
    return faults


def faults_of(text):
    tree = ast.parse(text)
    faults = faults_of_tree(tree, own_attributes(tree) | {"__init__"})
    return faults_of_text(text) + faults + faults_of_places(tree) + faults_of_locals(tree) + faults_of_top(tree)


class LanguageTest(unittest.TestCase):
    def files(self):
        return sorted(path for path in PACKAGE.rglob("*") if "__pycache__" not in path.parts)

    def test_only_plain_files_lie_in_the_package(self):
        names = [path.name for path in self.files()]
        self.assertIn("__init__.py", names)
        for name in names:
            self.assertRegex(name, r"\A(__init__|__main__|[a-z][a-z0-9_]*)\.py\Z")

    def test_each_file_keeps_to_the_rules(self):
        for path in self.files():
            self.assertEqual(faults_of(path.read_text(encoding="utf-8")), [], path.name)

    def trees(self):
        return {f"blotsure.{path.stem}": ast.parse(path.read_text(encoding="utf-8")) for path in self.files()}

    def test_each_name_is_bound_once_at_the_top(self):
        for module, tree in self.trees().items():
            names = names_at_the_top(tree) + [name for _, name in imports_of(tree)]
            self.assertEqual(sorted(names), sorted(set(names)), module)

    def test_each_import_is_from_the_very_file_and_used(self):
        trees = self.trees()
        for tree in trees.values():
            used = {node.id for node in ast.walk(tree) if isinstance(node, ast.Name)}
            for module, name in imports_of(tree):
                self.assertIn(name, names_at_the_top(trees[module]))
                self.assertIn(name, used)

    def test_no_two_files_draw_from_one_another(self):
        left = {module: {drawn for drawn, _ in imports_of(tree)} for module, tree in self.trees().items()}
        while left:
            done = [module for module, drawn in left.items() if not drawn & set(left)]
            self.assertNotEqual(done, [], left)
            left = {module: drawn for module, drawn in left.items() if module not in done}

    def test_the_look_sees_what_it_looks_for(self):
        for text in (
            "import sys\n", "from os import path\n", "x = 1.5\n", "x = 1 / 2\n", "x = y = 1\n", "x = '%'\n",
            "def f():\n    yield 1\n", "def f(n):\n    return 2 ** n\n", "def f(a, b):\n    return a is b\n",
            "def f(id):\n    return 1\n", "def _f():\n    return 1\n", "x = bin(3)\n", "x = chr(3)\n",
            "def f(xs):\n    xs.sort()\n", "# a type\n", "x = 1\t\n", "x = 'a" + "a" * 120 + "'\n",
            "x = '\u00e9'\n", "def f(xs):\n    return sum(x for x in xs)\n", "def f():\n" + "    pass\n" * 40,
            "def f(n):\n    return reversed(range(n))\n", "def f(n):\n    xs = range(n)\n    return list(xs)\n",
            "def f(d):\n    xs = d.items()\n    return 1\n", "def f(xs):\n    ys = set(xs)\n    return len(ys)\n",
            "def f(xs):\n    return [x for x in set(xs)]\n", "def f(*xs):\n    return 1\n",
            "def f(x):\n    try:\n        return x()\n    except Exception:\n        return 1\n",
            "from blotsure.dots import inked\n\ndef f(inked):\n    return inked\n",
            "x = len('a')\n", "x = [y for y in (1, 2)]\n", "x = (f, 1)\n\ndef f():\n    return 1\n",
            "for x in (1, 2):\n    pass\n", "class A:\n    x = 1\n", "class A(ValueError, KeyError):\n    pass\n",
        ):
            self.assertNotEqual(faults_of(text), [], text)

    def test_the_look_lets_pass_what_is_in_the_language(self):
        for text in (
            "def f(n):\n    return [x for x in range(n)]\n", "def f(xs):\n    return list(reversed(xs))\n",
            "def f(d):\n    return tuple(sorted(d.items()))\n", "def f(xs):\n    return len(set(xs))\n",
            "def f(xs, ys):\n    return set(xs) == set(ys)\n", "def f(xs, ys):\n    return sorted(set(xs) - set(ys))\n",
            "def f(x):\n    try:\n        return x()\n    except KeyError:\n        return 1\n",
            "def f():\n    return 1\n\nX = {'a': (1, True, f), 'b': (2, None, f)}\n", "'A file.'\n\nX = (1, 'a')\n",
            "class A:\n    def __init__(self):\n        self.b = {}\n\n    def c(self):\n        return self.b\n",
        ):
            self.assertEqual(faults_of(text), [], text)


if __name__ == "__main__":
    unittest.main()
