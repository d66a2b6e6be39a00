"""That the package keeps to its part of Python, rule by rule (L1 to L28), as far as its text shows it.

What is not looked at here: whether a set's order counts (L11), and what L19 asks of the inside of a try (there is none).
"""

import ast
import builtins
import pathlib
import re
import unittest

PACKAGE = pathlib.Path(__file__).resolve().parent.parent / "glasscartoons"

OWN_NAMES = set("""len range enumerate zip min max sum abs sorted reversed int str bool list tuple dict set frozenset
    isinstance ord repr any all divmod Exception ValueError TypeError KeyError IndexError LookupError ZeroDivisionError
    ArithmeticError OverflowError RuntimeError NotImplementedError AttributeError StopIteration""".split())
ERRORS = {name for name in OWN_NAMES if name[0].isupper()}
OWN_METHODS = set("""append clear copy count endswith extend find get index insert isalnum isalpha isdigit islower
    isspace isupper items join keys ljust lower lstrip partition pop remove replace reverse rfind rjust rpartition
    rsplit rstrip setdefault split splitlines startswith strip update upper values zfill bit_length""".split())
CHANGING = set("append clear extend insert pop remove reverse setdefault update".split())
TWO_UNDERSCORES = {"__init__", "__eq__", "__repr__", "__str__", "__len__"}
NAMES_OUT_EVERYWHERE = set("register mro elements open input version_info with_traceback add_note".split())
NAMES_OUT = set("""attrgetter breakpoint builtins compile copyright credits delattr dir eval exec exit gc getattr globals
    hasattr help id importlib license locals methodcaller os quit setattr super type vars sys __name__""".split())
WORDS_OUT = """type typing typing_extensions enum Enum IntEnum StrEnum Flag IntFlag Generic Protocol ABC ABCMeta namedtuple
    NamedTuple TypedDict TYPE_CHECKING abstractmethod""".split()
WORDS_OUT_WITHIN = ("dataclass", "overload", "contextmanager")
FILES_OUT = {"test", "tests", "testing", "site", "conftest", "sitecustomize", "usercustomize"} | set(WORDS_OUT)
VALUES_OUT = set("""items keys values pop update append clear extend insert remove reverse setdefault sort args encode
    format""".split())
VALUES_IN = set("count index title find get join lower upper split strip copy add".split())
KINDS_ATTRIBUTES = set().union(*(dir(kind) for kind in (str, int, list, dict, set, bytes, tuple)))
KEYWORDS = {"sorted": {"key", "reverse"}, "min": {"key", "default"}, "max": {"key", "default"}, "sum": {"start"},
            "enumerate": {"start"}, "zip": {"strict"}}
WALKED = {"zip", "enumerate", "reversed", "range"}
WALKED_METHODS = {"items", "keys", "values"}
WALKERS = {"list", "tuple", "dict", "sorted", "sum", "any", "all", "enumerate", "zip"}
STATEMENTS = (ast.Assign, ast.AugAssign, ast.If, ast.While, ast.For, ast.Return, ast.Break, ast.Continue, ast.Pass,
              ast.Raise, ast.Try, ast.Expr, ast.FunctionDef, ast.ClassDef, ast.ImportFrom)
EXPRESSIONS = (ast.BoolOp, ast.BinOp, ast.UnaryOp, ast.Lambda, ast.IfExp, ast.Dict, ast.Set, ast.ListComp, ast.Compare,
               ast.Call, ast.Constant, ast.Attribute, ast.Subscript, ast.Name, ast.List, ast.Tuple, ast.Slice,
               ast.JoinedStr, ast.FormattedValue)
OPERATORS = (ast.Add, ast.Sub, ast.Mult, ast.FloorDiv, ast.Mod, ast.Pow, ast.LShift, ast.RShift, ast.BitOr, ast.BitXor,
             ast.BitAnd)


class File:
    """One file of the package: its text, its tree, and what is said against it."""

    def __init__(self, name, text):
        self.name = name
        self.text = text
        self.tree = ast.parse(text)
        self.nodes = list(ast.walk(self.tree))
        self.parents = {child: node for node in self.nodes for child in ast.iter_child_nodes(node)}
        self.functions = [node for node in self.nodes if isinstance(node, ast.FunctionDef)]
        self.classes = [node for node in self.nodes if isinstance(node, ast.ClassDef)]
        self.imports = [node for node in self.nodes if isinstance(node, (ast.Import, ast.ImportFrom))]
        self.imported = {alias.asname or alias.name for node in self.imports for alias in node.names}
        self.said = []

    def say(self, rule, node, what):
        self.said.append((rule, self.name, getattr(node, "lineno", node), what))

    def top_names(self):
        names = []
        for node in self.tree.body:
            if isinstance(node, (ast.FunctionDef, ast.ClassDef)):
                names.append(node.name)
            elif isinstance(node, ast.Assign):
                names += [target.id for target in node.targets if isinstance(target, ast.Name)]
            elif isinstance(node, (ast.Import, ast.ImportFrom)):
                names += [alias.asname or alias.name for alias in node.names]
        return names

    def bound_within(self, function):
        names = {argument.arg for node in ast.walk(function) if isinstance(node, ast.arguments)
                 for argument in node.posonlyargs + node.args + node.kwonlyargs}
        names |= {node.id for node in ast.walk(function)
                  if isinstance(node, ast.Name) and isinstance(node.ctx, ast.Store)}
        names |= {node.name for node in ast.walk(function) if isinstance(node, ast.ExceptHandler) and node.name}
        return names | {node.name for node in ast.walk(function)
                        if isinstance(node, ast.FunctionDef) and node is not function}


def called(node):
    """The plain name that a call calls, if it does."""
    return node.func.id if isinstance(node, ast.Call) and isinstance(node.func, ast.Name) else None


def method_called(node):
    return node.func.attr if isinstance(node, ast.Call) and isinstance(node.func, ast.Attribute) else None


def is_docstring(node):
    return isinstance(node, ast.Expr) and isinstance(node.value, ast.Constant) and isinstance(node.value.value, str)


def check_signs(file):
    if any(sign != "\n" and not " " <= sign <= "~" for sign in file.text):
        file.say("L14", 0, "a sign")
    rows = file.text.split("\n")
    if len(rows) > 401:
        file.say("L10", len(rows), "a long file")
    for number, row in enumerate(rows, 1):
        if len(row) > 120:
            file.say("L10", number, "a long line")
        for word in re.findall(r"\w+", row):
            if word in WORDS_OUT or any(out in word for out in WORDS_OUT_WITHIN):
                file.say("L17", number, word)


def check_imports(file):
    for node in file.imports:
        if node not in file.tree.body:
            file.say("L2", node, "an import that is not at the top")
        if isinstance(node, ast.Import):
            file.say("L16", node, "import without from")
            continue
        future = node.module == "__future__" and [alias.name for alias in node.names] == ["annotations"]
        own = node.level == 0 and (node.module or "").startswith("glasscartoons.") and "__main__" not in node.module
        if not (future or own) or any(alias.name == "*" for alias in node.names):
            file.say("L2", node, "an import from outside")


def is_plain(node, functions):
    if isinstance(node, (ast.List, ast.Tuple)):
        return all(is_plain(part, functions) for part in node.elts)
    if isinstance(node, ast.Dict):
        return all(key is not None and is_plain(key, functions) for key in node.keys) and all(
            is_plain(part, functions) for part in node.values)
    if isinstance(node, ast.UnaryOp):
        return isinstance(node.op, ast.USub) and is_plain(node.operand, functions)
    return isinstance(node, ast.Constant) or (isinstance(node, ast.Name) and node.id in functions)


def check_top(file):
    functions = set()
    for number, node in enumerate(file.tree.body):
        if isinstance(node, ast.FunctionDef):
            functions.add(node.name)
        elif isinstance(node, ast.Assign):
            if not is_plain(node.value, functions):
                file.say("L3", node, "no plain value")
            inner = node.value.elts if isinstance(node.value, (ast.List, ast.Tuple)) else []
            inner = node.value.values if isinstance(node.value, ast.Dict) else inner
            if any(isinstance(part, (ast.List, ast.Dict)) for top in inner for part in ast.walk(top)):
                file.say("L15", node, "a list or dict within one of the top")
        elif not isinstance(node, (ast.ImportFrom, ast.Import, ast.ClassDef)) and not (number == 0 and is_docstring(node)):
            file.say("L3", node, "not for the top")
    names = file.top_names()
    for name in sorted(set(names)):
        if names.count(name) > 1:
            file.say("L15", 0, name + " is bound twice")


def check_functions(file):
    for node in file.functions:
        if node.decorator_list or node.args.vararg or node.args.kwarg or node.args.kwonlyargs or node.args.posonlyargs:
            file.say("L4", node, node.name)
        if not all(is_plain(default, ()) for default in node.args.defaults):
            file.say("L4", node, "a default")
        if node.returns or any(argument.annotation for argument in node.args.args):
            file.say("L21", node, "an annotation")
        if node.end_lineno - node.lineno + 1 > 40:
            file.say("L10", node, "a long function")
        for name in sorted(file.bound_within(node)):
            if name in dir(builtins) or name in file.imported or name in {made.name for made in file.classes}:
                file.say("L15", node, name)


def check_classes(file):
    for node in file.classes:
        if node not in file.tree.body:
            file.say("L15", node, "a class within")
        if node.decorator_list or len(node.bases) > 1 or node.keywords:
            file.say("L5", node, node.name)
        for base in node.bases:
            if not isinstance(base, ast.Name) or base.id in ("StopIteration", "AttributeError") or (
                    base.id not in ERRORS and base.id not in file.top_names()):
                file.say("L18", node, "a base")
        names = []
        for number, part in enumerate(node.body):
            if isinstance(part, ast.FunctionDef):
                names.append(part.name)
                check_method(file, part)
            elif not (number == 0 and is_docstring(part)):
                file.say("L5", part, "no method")
        if len(names) != len(set(names)):
            file.say("L18", node, "a method twice")


def check_method(file, node):
    if node.name.startswith("__"):
        if node.name not in TWO_UNDERSCORES:
            file.say("L5", node, node.name)
        if node.name == "__init__" and any(isinstance(part, ast.Return) and part.value for part in ast.walk(node)):
            file.say("L28", node, "__init__ gives back something")
    elif node.name in KINDS_ATTRIBUTES - OWN_METHODS - {"add", "discard"}:
        file.say("L26", node, node.name)


def check_statements(file):
    for node in file.nodes:
        if isinstance(node, ast.stmt) and not isinstance(node, STATEMENTS):
            # An import without from is told by L16.
            if not isinstance(node, ast.Import):
                file.say("L6", node, "a statement")
        if isinstance(node, (ast.While, ast.For)) and node.orelse:
            file.say("L6", node, "else behind a loop")
        if isinstance(node, ast.Assign) and len(node.targets) != 1:
            file.say("L6", node, "several targets")
        if isinstance(node, ast.Try) and node.finalbody:
            file.say("L6", node, "finally")
        if isinstance(node, ast.Expr) and not isinstance(node.value, ast.Call) and not is_docstring(node):
            file.say("L6", node, "a value by itself")
        if isinstance(node, ast.ExceptHandler):
            kinds = node.type.elts if isinstance(node.type, ast.Tuple) else [node.type]
            if any(not isinstance(kind, ast.Name) or kind.id in ("Exception", "TypeError") for kind in kinds):
                file.say("L19", node, "a handler")


def check_expressions(file):
    for node in file.nodes:
        if isinstance(node, ast.expr) and not isinstance(node, EXPRESSIONS):
            file.say("L7", node, type(node).__name__)
        if isinstance(node, ast.Constant) and type(node.value) not in (int, str, bool, type(None)):
            file.say("L7", node, "a value")
        if isinstance(node, (ast.BinOp, ast.AugAssign)) and not isinstance(node.op, OPERATORS):
            file.say("L7", node, "an operator")
        if isinstance(node, ast.ListComp) and (len(node.generators) > 1 or len(node.generators[0].ifs) > 1):
            file.say("L7", node, "a comprehension")
        if isinstance(node, ast.FormattedValue) and (
                not isinstance(node.value, ast.Name) or node.format_spec or node.conversion not in (-1, 114)):
            file.say("L7", node, "an f-string")
        if isinstance(node, ast.Compare) and any(isinstance(op, (ast.Is, ast.IsNot)) for op in node.ops):
            sides = [node.left] + node.comparators
            if not any(isinstance(side, ast.Constant) and side.value in (None, True, False) for side in sides):
                file.say("L20", node, "is")
        if isinstance(node, ast.BinOp) and isinstance(node.op, ast.Pow):
            if not isinstance(node.right, ast.Constant) or not 0 <= node.right.value <= 64:
                file.say("L27", node, "an exponent")
        if isinstance(node, ast.Constant) and isinstance(node.value, str) and "%" in node.value:
            file.say("L27", node, "a text")
        if isinstance(node, ast.Set) and len(node.elts) > 2 and not beside_in(file, node):
            file.say("L13", node, "a set")


def beside_in(file, node):
    parent = file.parents[node]
    return isinstance(parent, ast.Compare) and all(isinstance(op, (ast.In, ast.NotIn)) for op in parent.ops)


def check_names(file):
    known = set(file.top_names())
    for node in file.nodes:
        name = getattr(node, "id", None) or getattr(node, "attr", None) or getattr(node, "arg", None)
        if isinstance(node, (ast.FunctionDef, ast.ClassDef)):
            name = node.name
        if not isinstance(name, str):
            continue
        if not re.fullmatch(r"[A-Za-z][A-Za-z0-9_]*", name) and name not in TWO_UNDERSCORES:
            file.say("L12", node, name)
        if name in NAMES_OUT_EVERYWHERE or (name in NAMES_OUT and not isinstance(node, ast.Attribute)):
            file.say("L17", node, name)
        if isinstance(node, ast.Attribute) and name in ("format", "format_map", "mro"):
            file.say("L8", node, name)
        if isinstance(node, ast.Name) and isinstance(node.ctx, ast.Load) and name not in known | OWN_NAMES:
            if name not in scope_of(file, node):
                file.say("L8", node, name)
        if isinstance(node, ast.Name) and isinstance(node.ctx, ast.Store) and name in dir(builtins):
            file.say("L8", node, name)


def scope_of(file, node):
    """The names bound in the functions, lambdas and comprehensions round about."""
    names = set()
    while node in file.parents:
        node = file.parents[node]
        if isinstance(node, (ast.FunctionDef, ast.Lambda, ast.ListComp)):
            names |= file.bound_within(node)
    return names


def check_calls(file):
    for node in file.nodes:
        if isinstance(node, ast.Name) and isinstance(node.ctx, ast.Load) and node.id in OWN_NAMES - ERRORS:
            parent = file.parents[node]
            as_key = isinstance(parent, ast.keyword) and parent.arg == "key"
            in_isinstance = called(parent) == "isinstance" or called(file.parents.get(parent)) == "isinstance"
            if not (isinstance(parent, ast.Call) and parent.func is node) and not as_key and not in_isinstance:
                file.say("L22", node, node.id)
        if called(node) in OWN_NAMES and any(
                keyword.arg not in KEYWORDS.get(called(node), ()) for keyword in node.keywords):
            file.say("L22", node, "a keyword")
        if method_called(node) in OWN_METHODS and node.keywords:
            file.say("L22", node, "a keyword")
        if called(node) in WALKED or method_called(node) in WALKED_METHODS:
            if not walked_at_once(file, node):
                file.say("L23", node, "kept, not walked")
        if called(node) in ("set", "frozenset") and not set_on_the_spot(file, node):
            file.say("L24", node, "a set")


def walked_at_once(file, node):
    parent = file.parents[node]
    if isinstance(parent, (ast.For, ast.comprehension)):
        return parent.iter is node
    if called(parent) in WALKERS:
        return parent.args[0] is node or called(parent) == "zip"
    if called(parent) in ("min", "max"):
        return len(parent.args) == 1
    return method_called(parent) == "join" and isinstance(parent.func.value, ast.Constant)


def set_on_the_spot(file, node):
    parent = file.parents[node]
    while isinstance(parent, ast.BinOp):
        parent = file.parents[parent]
    return isinstance(parent, ast.Compare) or (called(parent) in ("sorted", "len") and not parent.keywords)


def changes_within(loop):
    """The texts of what is changed in a loop's rows: by a method, by an index, or put in anew by +=."""
    for node in ast.walk(ast.Module(body=loop.body, type_ignores=[])):
        if method_called(node) in CHANGING:
            yield ast.unparse(node.func.value)
        if isinstance(node, ast.Subscript) and isinstance(node.ctx, ast.Store):
            yield ast.unparse(node.value)
        if isinstance(node, ast.AugAssign):
            yield ast.unparse(node.target)


def check_loops(file):
    for node in file.nodes:
        if isinstance(node, ast.For):
            walked = {ast.unparse(part) for part in ast.walk(node.iter) if isinstance(part, (ast.Name, ast.Attribute))}
            for changed in changes_within(node):
                if changed in walked:
                    file.say("L23", node, changed + " is walked and changed")


def check_top_lists(file):
    tops = {node.targets[0].id for node in file.tree.body
            if isinstance(node, ast.Assign) and isinstance(node.value, (ast.List, ast.Dict))}
    for function in file.functions:
        for node in ast.walk(function):
            if method_called(node) in CHANGING and ast.unparse(node.func.value) in tops:
                file.say("L15", node, "a list of the top is changed")
            if isinstance(node, ast.Subscript) and isinstance(node.ctx, ast.Store) and ast.unparse(node.value) in tops:
                file.say("L15", node, "a list of the top is changed")
            if isinstance(node, ast.Return) and isinstance(node.value, ast.Name) and node.value.id in tops:
                file.say("L15", node, "a list of the top is given back")


CHECKS = (check_signs, check_imports, check_top, check_functions, check_classes, check_statements, check_expressions,
          check_names, check_calls, check_loops, check_top_lists)


def check_methods_and_values(files):
    methods = {part.name for file in files for made in file.classes for part in made.body
               if isinstance(part, ast.FunctionDef)}
    for file in files:
        for node in file.nodes:
            if isinstance(node, ast.Attribute) and isinstance(node.ctx, ast.Store):
                if node.attr in methods:
                    file.say("L18", node, node.attr + " is a method too")
                if node.attr in VALUES_OUT or node.attr in KINDS_ATTRIBUTES - VALUES_IN:
                    file.say("L26", node, node.attr)
            if method_called(node) and node.func.attr not in OWN_METHODS | methods:
                file.say("L25", node, node.func.attr)


def check_drawn_from(files):
    """L16: names come from the file that defines them, and no two files draw from one another."""
    by_module = {"glasscartoons." + file.name[:-3]: file for file in files}
    drawn_from = {module: set() for module in by_module}
    for module, file in by_module.items():
        for node in file.imports:
            if not isinstance(node, ast.ImportFrom) or node.module == "__future__":
                continue
            source = by_module.get(node.module)
            if source is None:
                file.say("L16", node, "no such file")
                continue
            drawn_from[module] |= {node.module, "glasscartoons.__init__"} & set(by_module)
            for alias in node.names:
                if alias.name not in source.top_names() or alias.name in source.imported:
                    file.say("L16", node, alias.name)
    for module, file in by_module.items():
        reached, waiting = set(), [module]
        while waiting:
            for other in drawn_from[waiting.pop()] - reached:
                reached.add(other)
                waiting.append(other)
        if module in reached:
            file.say("L16", 0, "draws from itself")


def said_of(files):
    for file in files:
        for check in CHECKS:
            check(file)
    check_methods_and_values(files)
    check_drawn_from(files)
    return [line for file in files for line in file.said]


class ThePackage(unittest.TestCase):
    def paths(self):
        return [path for path in sorted(PACKAGE.rglob("*")) if "__pycache__" not in path.parts]

    def test_only_files_with_plain_names(self):
        for path in self.paths():
            self.assertTrue(path.is_file(), path)
            self.assertEqual(path.suffix, ".py")
            self.assertRegex(path.stem, r"^(__init__|[a-z][a-z0-9_]*)$")
            self.assertNotIn(path.stem, FILES_OUT | set(dir(builtins)))
            self.assertFalse(path.stem.startswith("test_"))
        self.assertTrue((PACKAGE / "__init__.py").is_file())

    def test_keeps_to_its_part_of_python(self):
        files = [File(path.name, path.read_bytes().decode("utf-8")) for path in self.paths()]
        self.assertEqual(said_of(files), [])

    def test_the_top_of_the_package_binds_nothing(self):
        self.assertEqual(File("__init__.py", (PACKAGE / "__init__.py").read_text()).top_names(), [])


WRONG = (
    ("L2", "def f():\n    from glasscartoons.plane import turn_of\n    return turn_of\n"),
    ("L2", "from os.path import join\n"),
    ("L2", "from .plane import turn_of\n"),
    ("L2", "from glasscartoons.plane import *\n"),
    ("L3", "X = len('a')\n"),
    ("L3", "for k in (1, 2):\n    pass\n"),
    ("L4", "def f(*xs):\n    return xs\n"),
    ("L4", "def f(x, *, y):\n    return x\n"),
    ("L5", "class A:\n    x = 1\n"),
    ("L5", "class A:\n    def __add__(self, other):\n        return 1\n"),
    ("L6", "def f(x):\n    assert x\n"),
    ("L6", "def f(xs):\n    for x in xs:\n        pass\n    else:\n        return 1\n"),
    ("L6", "def f(x):\n    a = b = x\n    return a + b\n"),
    ("L6", "def f(x):\n    x\n"),
    ("L7", "def f(x):\n    return x / 2\n"),
    ("L7", "def f(x):\n    return 1.5\n"),
    ("L7", "def f(xs):\n    return {x: 1 for x in xs}\n"),
    ("L7", "def f(xs):\n    return sum(x for x in xs)\n"),
    ("L7", "def f(xs):\n    return [*xs]\n"),
    ("L7", "def f(xs):\n    return [x for row in xs for x in row]\n"),
    ("L8", "def f(x):\n    return hash(x)\n"),
    ("L8", "def f(x):\n    return print(x)\n"),
    ("L8", "def f(x):\n    return missing\n"),
    ("L10", "def f(x):\n" + "    x = 1\n" * 40),
    ("L10", "X = 1\n" * 1 + "# remark\n" * 400),
    ("L10", "# " + "x" * 119 + "\n"),
    ("L12", "def f(x):\n    _y = x\n    return _y\n"),
    ("L13", "def f(x):\n    y = {1, 2, 3}\n    return x in y\n"),
    ("L14", "# \u00e4\n"),
    ("L14", "def f(x):\n\treturn x\n"),
    ("L15", "X = 1\nX = 2\n"),
    ("L15", "X = [[1], [2]]\n"),
    ("L15", "X = [1]\n\n\ndef f():\n    X.append(2)\n"),
    ("L15", "X = [1]\n\n\ndef f():\n    return X\n"),
    ("L15", "def f(next):\n    return next\n"),
    ("L16", "import sys\n"),
    ("L16", "from glasscartoons.missing import x\n"),
    ("L16", "from glasscartoons.snippet import x\n\n\ndef y():\n    return x\n"),
    ("L17", "# This is of the type told.\n"),
    ("L17", "def f(x):\n    return type(x)\n"),
    ("L18", "class A:\n    def size(self):\n        return 1\n\n\nclass B:\n    def __init__(self):\n        self.size = 1\n"),
    ("L19", "def f(x):\n    try:\n        return x[0]\n    except Exception:\n        return 1\n"),
    ("L20", "def f(x, y):\n    return x is y\n"),
    ("L21", "def f(x: int):\n    return x\n"),
    ("L22", "def f(xs):\n    g = len\n    return g(xs)\n"),
    ("L22", "def f(x):\n    return int(x, base=2)\n"),
    ("L23", "def f(x):\n    y = range(x)\n    return y\n"),
    ("L23", "def f(x):\n    return [y for y in reversed(range(x))]\n"),
    ("L23", "def f(xs):\n    for x in xs:\n        xs.append(x)\n"),
    ("L24", "def f(xs):\n    ys = set(xs)\n    return len(ys)\n"),
    ("L25", "def f(xs):\n    xs.sort()\n"),
    ("L26", "class A:\n    def __init__(self):\n        self.items = 1\n"),
    ("L27", "def f(n):\n    return 2 ** n\n"),
    ("L28", "class A:\n    def __init__(self):\n        return None\n"),
)

RIGHT = '''"""A text."""

from glasscartoons.other import helper

TABLE = ((1, "a"), (2, "b"))


class Thing:
    """A thing."""

    def __init__(self, row):
        self.row = row

    def size(self):
        return len(self.row)


def first(rows):
    found = {}
    for number, row in enumerate(rows):
        found[row] = number
    for one, two in TABLE:
        if one in found and two is not None:
            return helper(found, key=1)
    return [row for row in sorted(set(rows)) if row > 2 ** 16]
'''


class TheChecks(unittest.TestCase):
    """The checks themselves: they tell what is wrong, and nothing of what is right."""

    def test_wrong(self):
        for rule, text in WRONG:
            with self.subTest((rule, text)):
                rules = {line[0] for line in said_of([File("snippet.py", text)])}
                self.assertIn(rule, rules)

    def test_right(self):
        other = File("other.py", "def helper(found, key):\n    return found.get(key)\n")
        self.assertEqual(said_of([File("snippet.py", RIGHT), other]), [])


if __name__ == "__main__":
    unittest.main()
