"""What a test can see of the rules on the parsed files: L2 to L8, L12, L15 to L18, L20, L21, L23 to L27, in part."""

import ast
import builtins
import pathlib
import re
import unittest

PACKAGE = pathlib.Path(__file__).resolve().parent.parent / "combstrip"

ERROR_NAMES = """Exception ValueError TypeError KeyError IndexError LookupError ZeroDivisionError ArithmeticError
OverflowError RuntimeError NotImplementedError AttributeError StopIteration""".split()

# The names of Python's own that L8 lists, less chr (L27).
PYTHON_NAMES = """len range enumerate zip min max sum abs sorted reversed int str bool list tuple dict set frozenset
isinstance ord repr any all divmod""".split() + ERROR_NAMES

PYTHON_METHODS = """append clear copy count endswith extend find get index insert isalnum isalpha isdigit islower
isspace isupper items join keys ljust lower lstrip partition pop remove replace reverse rfind rjust rpartition rsplit
rstrip setdefault split splitlines startswith strip update upper values zfill bit_length""".split()

DOUBLE_METHODS = ["__init__", "__eq__", "__repr__", "__str__", "__len__"]

TAKEN_MEMBERS = set(
    name for kind in (str, int, list, dict, set, bytes, tuple) for name in dir(kind) if not name.startswith("__")
)

NAMES_NOT_USED = """register mro elements open input version_info with_traceback add_note attrgetter breakpoint builtins
compile copyright credits delattr dir eval exec exit gc getattr globals hasattr help id importlib license locals
methodcaller os quit setattr super type vars sys""".split()

WORDS_NOT_USED = """type typing typing_extensions enum Enum IntEnum StrEnum Flag IntFlag Generic Protocol ABC ABCMeta
namedtuple NamedTuple TypedDict TYPE_CHECKING abstractmethod""".split()

STATEMENTS = (
    ast.Assign, ast.AugAssign, ast.If, ast.While, ast.For, ast.Return, ast.Break, ast.Continue, ast.Pass, ast.Raise,
    ast.Try, ast.Expr, ast.FunctionDef, ast.ClassDef, ast.ImportFrom,
)
EXPRESSIONS = (
    ast.Constant, ast.List, ast.Tuple, ast.Dict, ast.BinOp, ast.UnaryOp, ast.BoolOp, ast.Compare, ast.IfExp, ast.Call,
    ast.Attribute, ast.Subscript, ast.Slice, ast.ListComp, ast.JoinedStr, ast.FormattedValue, ast.Name, ast.Lambda,
)

WALKED_NAMES = ["zip", "enumerate", "reversed", "range"]
WALKED_METHODS = ["items", "keys", "values"]
WALKERS = ["list", "tuple", "dict", "sorted", "sum", "any", "all", "enumerate", "zip", "min", "max"]


def is_call_of(node, names):
    return isinstance(node, ast.Call) and isinstance(node.func, ast.Name) and node.func.id in names


def parents_of(tree):
    return {child: node for node in ast.walk(tree) for child in ast.iter_child_nodes(node)}


def statement_faults(tree):
    """L4 to L6, L21: which statements there are, and in what form."""
    for node in ast.walk(tree):
        if isinstance(node, ast.stmt) and not isinstance(node, STATEMENTS):
            yield node, "a statement that is not listed"
        if isinstance(node, ast.Assign) and len(node.targets) != 1:
            yield node, "several targets"
        if isinstance(node, (ast.For, ast.While)) and node.orelse:
            yield node, "else behind a loop"
        if isinstance(node, ast.Try) and (node.finalbody or any(one.type is None for one in node.handlers)):
            yield node, "finally, or an except without a name"
        if isinstance(node, ast.Raise) and not isinstance(node.exc, ast.Call):
            yield node, "an error that is not made on the spot"
        if isinstance(node, ast.Expr) and not isinstance(node.value, ast.Call):
            if not (isinstance(node.value, ast.Constant) and isinstance(node.value.value, str)):
                yield node, "a statement that does nothing"
        if isinstance(node, (ast.FunctionDef, ast.ClassDef)) and node.decorator_list:
            yield node, "a decorator"
        if isinstance(node, ast.arguments) and (node.vararg or node.kwarg or node.kwonlyargs or node.posonlyargs):
            yield node, "other than plain parameters"
        if isinstance(node, ast.arg) and node.annotation or isinstance(node, ast.FunctionDef) and node.returns:
            yield node, "an annotation"


def expression_faults(tree):
    """L7, L20, L27: which expressions there are, and in what form."""
    for node in ast.walk(tree):
        if isinstance(node, ast.expr) and not isinstance(node, EXPRESSIONS):
            yield node, "an expression that is not listed"
        if isinstance(node, ast.Constant) and not isinstance(node.value, (int, str, type(None))):
            yield node, "a value that is not listed"
        if isinstance(node, ast.Constant) and isinstance(node.value, str) and chr(37) in node.value:
            yield node, "a per cent sign in a text"
        if isinstance(node, (ast.Div, ast.MatMult)):
            yield node, "an operator that is not listed"
        if isinstance(node, ast.BinOp) and isinstance(node.op, ast.Pow):
            if not (isinstance(node.right, ast.Constant) and 0 <= node.right.value <= 64):
                yield node, "an exponent that is not written"
        if isinstance(node, ast.ListComp) and (len(node.generators) != 1 or len(node.generators[0].ifs) > 1):
            yield node, "a comprehension with more than one for or if"
        if isinstance(node, ast.FormattedValue):
            if not isinstance(node.value, ast.Name) or node.conversion not in (-1, 114) or node.format_spec:
                yield node, "braces with more than a name"
        if isinstance(node, ast.Compare):
            for operator, right in zip(node.ops, node.comparators):
                if isinstance(operator, (ast.Is, ast.IsNot)):
                    if not (isinstance(right, ast.Constant) and right.value in (None, True, False)):
                        yield node, "is beside something else"


def walk_faults(tree):
    """L23 and L24: what is walked on the spot, and where a set stands."""
    parents = parents_of(tree)
    for node in ast.walk(tree):
        above = parents.get(node)
        method = isinstance(node, ast.Call) and isinstance(node.func, ast.Attribute) and node.func.attr
        if is_call_of(node, WALKED_NAMES) or method in WALKED_METHODS:
            looped = isinstance(above, (ast.For, ast.comprehension)) and above.iter is node
            if not looped and not (is_call_of(above, WALKERS) and above.args[0] is node):
                yield node, "kept, not walked on the spot"
        if is_call_of(node, ["set", "frozenset"]):
            while isinstance(above, ast.BinOp):
                above = parents.get(above)
            if not isinstance(above, ast.Compare) and not is_call_of(above, ["sorted", "len"]):
                yield node, "a set that is kept or walked"


def top_faults(tree):
    """L3, L5, L15: what stands at a file's top and in a class."""
    bound = []
    for place, node in enumerate(tree.body):
        if isinstance(node, (ast.FunctionDef, ast.ClassDef)):
            bound.append(node.name)
        elif isinstance(node, ast.ImportFrom):
            bound += [one.asname or one.name for one in node.names]
        elif isinstance(node, ast.Assign):
            bound += [target.id for target in node.targets if isinstance(target, ast.Name)]
            if any(isinstance(part, (ast.Call, ast.ListComp, ast.Lambda)) for part in ast.walk(node.value)):
                yield node, "no plain value"
        elif not (place == 0 and isinstance(node, ast.Expr) and isinstance(node.value, ast.Constant)):
            yield node, "not for a file's top"
    if len(set(bound)) != len(bound):
        yield tree.body[0], "a name that is bound twice"
    for node in ast.walk(tree):
        if isinstance(node, ast.ClassDef):
            methods = [one.name for one in node.body if isinstance(one, ast.FunctionDef)]
            if len(node.bases) > 1 or node.keywords or node not in tree.body or len(set(methods)) != len(methods):
                yield node, "no plain class"
            for one in node.body:
                if not isinstance(one, (ast.FunctionDef, ast.Pass)) and not isinstance(one, ast.Expr):
                    yield one, "a value in a class"


def bound_names(tree):
    """Each name that is bound somewhere below a file's top, and the node that binds it."""
    for node in ast.walk(tree):
        if isinstance(node, ast.Name) and isinstance(node.ctx, ast.Store):
            yield node, node.id
        elif isinstance(node, ast.arg):
            yield node, node.arg
        elif isinstance(node, ast.ExceptHandler) and node.name:
            yield node, node.name


def top_names(tree):
    return [node.name for node in tree.body if isinstance(node, (ast.FunctionDef, ast.ClassDef))] + [
        target.id for node in tree.body if isinstance(node, ast.Assign) for target in node.targets
    ]


def name_faults(tree):
    """L8, L12, L15, L17: which names are bound, and which are read without being bound."""
    drawn = [one.asname or one.name for node in tree.body if isinstance(node, ast.ImportFrom) for one in node.names]
    classes = [node.name for node in tree.body if isinstance(node, ast.ClassDef)]
    locals_bound = list(bound_names(tree))
    known = drawn + top_names(tree) + [name for node, name in locals_bound] + PYTHON_NAMES
    for node, name in locals_bound:
        if name in drawn + classes or hasattr(builtins, name):
            yield node, "a name that has another meaning already: " + name
    for node in ast.walk(tree):
        name = getattr(node, "id", None) or getattr(node, "arg", None) or getattr(node, "attr", None)
        if isinstance(node, (ast.FunctionDef, ast.ClassDef)):
            name = node.name
        if name is None:
            continue
        if name in NAMES_NOT_USED or name == "chr":
            yield node, "a name that is not used: " + name
        if not re.fullmatch("[A-Za-z][A-Za-z0-9_]*", name) and name not in DOUBLE_METHODS:
            yield node, "no plain name: " + name
        if isinstance(node, ast.Name) and isinstance(node.ctx, ast.Load) and name not in known:
            yield node, "a name that is not known: " + name


def word_faults(text):
    """L17: the words that stand nowhere in a file."""
    for word in re.findall("[A-Za-z0-9_]+", text):
        if word in WORDS_NOT_USED or any(part in word.lower() for part in ("dataclass", "overload", "contextmanager")):
            yield None, "a word that is not used: " + word


def members_of(trees):
    """The methods and the values of all classes of the package."""
    methods, values = set(), set()
    for tree in trees:
        for node in ast.walk(tree):
            if isinstance(node, ast.ClassDef):
                methods.update(one.name for one in node.body if isinstance(one, ast.FunctionDef))
            if isinstance(node, ast.Attribute) and isinstance(node.ctx, ast.Store):
                values.add(node.attr)
    return methods, values


def member_faults(tree, methods, values):
    """L18, L25, L26: which methods are called and which values are read."""
    parents = parents_of(tree)
    for name in sorted(methods & values):
        yield None, "a method and a value: " + name
    for name in sorted((methods | values) & TAKEN_MEMBERS):
        yield None, "a member that Python's own values have: " + name
    for node in ast.walk(tree):
        if isinstance(node, ast.Attribute):
            called = isinstance(parents[node], ast.Call) and parents[node].func is node
            if called and node.attr not in methods and node.attr not in PYTHON_METHODS:
                yield node, "a method that is not listed: " + node.attr
            if not called and node.attr not in values:
                yield node, "a value that no object has: " + node.attr


def import_faults(tree, trees):
    """L2 and L16: what is drawn from where."""
    for node in ast.walk(tree):
        if isinstance(node, ast.ImportFrom):
            source = trees.get(node.module)
            if node.level or source is None:
                yield node, "drawn from elsewhere"
            elif not set(one.name for one in node.names) <= set(top_names(source)):
                yield node, "drawn from a file that does not define it"


def draws_from(trees, name):
    """All files that a file draws from, in whatever many steps."""
    found, left = set(), [name]
    while left:
        tree = trees.get(left.pop())
        for node in ast.walk(tree) if tree else []:
            if isinstance(node, ast.ImportFrom) and node.module not in found:
                found.add(node.module)
                left.append(node.module)
    return found


def faults_of(texts):
    """All faults of a package, told as a dict from the names of its files to their texts."""
    trees = {name: ast.parse(text) for name, text in texts.items()}
    methods, values = members_of(trees.values())
    found = []
    for name, tree in trees.items():
        finders = [statement_faults, expression_faults, walk_faults, top_faults, name_faults]
        faults = [fault for finder in finders for fault in finder(tree)]
        faults += list(word_faults(texts[name])) + list(member_faults(tree, methods, values))
        faults += list(import_faults(tree, trees))
        if name in draws_from(trees, name):
            faults.append((None, "draws from itself"))
        found += [(name, getattr(node, "lineno", 0), words) for node, words in faults]
    return found


class TestRules(unittest.TestCase):
    def test_the_package_keeps_to_the_rules(self):
        texts = {"combstrip." + path.stem: path.read_text(encoding="utf-8") for path in PACKAGE.rglob("*.py")}
        self.assertGreater(len(texts), 1)
        self.assertEqual(faults_of(texts), [])


class TestFinders(unittest.TestCase):
    """The finders of faults above find what they are there for."""

    def test_good_texts(self):
        good = [
            "def f(xs, far=3):\n    return [x + far for x in xs if x > 2 ** 7]",
            "A = (1, 2)\n\n\ndef f(d):\n    for k, v in d.items():\n        d = dict(d)\n    return sorted(set(d) - set(A))",
            "class E(ValueError):\n    pass\n\n\ndef f(x):\n    if x is None:\n        raise E(f'{x!r} is none')",
            "class C:\n    def __init__(self):\n        self.kept = []\n\n    def put(self, x):\n        self.kept.append(x)",
        ]
        for text in good:
            self.assertEqual(faults_of({"p.a": text}), [], text)

    def test_bad_statements(self):
        bodies = ["a = b = x", "del x", "assert x", "with x:\n        pass", "global x", "yield x", "x", "import sys"]
        bodies += ["for a in x:\n        pass\n    else:\n        pass", "raise ValueError", "a: int = x"]
        bodies += ["try:\n        pass\n    except:\n        pass", "try:\n        pass\n    finally:\n        pass"]
        for body in bodies:
            self.assertNotEqual(faults_of({"p.a": "def f(x):\n    " + body}), [], body)
        for text in ["def f(*x):\n    pass", "def f(*, x):\n    pass", "def f(x: int):\n    pass", "len([])"]:
            self.assertNotEqual(faults_of({"p.a": text}), [], text)

    def test_bad_expressions(self):
        values = ["x / 2", "1.5", "b'a'", "2 ** x", "{1, 2}", "{k: 1 for k in x}", "(k for k in x)", "[*x]", "(y := x)"]
        values += ["[a for b in x for a in b]", "[a for a in x if a if a > 1]", "x is x", "f'{x + 1}'", "f'{x:>3}'"]
        values += ["'%'", "chr(x)", "print(x)", "map(x)", "x.sort()", "x.kept", "nobody", "getattr(x, 'a')", "iter(x)"]
        values += ["zip(x, x)", "len(range(x))", "set(x)", "list(set(x))", "x.items()", "x.__class__"]
        for value in values:
            self.assertNotEqual(faults_of({"p.a": "def f(x):\n    return " + value}), [], value)

    def test_bad_tops_names_and_words(self):
        texts = ["A = len([])", "A = 1\nA = 2", "if True:\n    pass", "class C(A, B):\n    pass", "class C:\n    a = 1"]
        texts += ["def f(next):\n    pass", "def f(_x):\n    pass", "def f():\n    _ = 1", "# a type\nA = 1"]
        texts += ["class C:\n    pass\n\n\ndef f(C):\n    pass", "class C:\n    def sort(self):\n        pass"]
        texts += ["class C:\n    def put(self):\n        self.put = 1", "class C:\n    def __add__(self):\n        pass"]
        for text in texts:
            self.assertNotEqual(faults_of({"p.a": text}), [], text)

    def test_bad_imports(self):
        good = {"p.a": "A = 1", "p.b": "from p.a import A"}
        self.assertEqual(faults_of(good), [])
        for text in ["from os import A", "import p.a", "from .a import A", "from p.a import B", "from p.a import *"]:
            self.assertNotEqual(faults_of({"p.a": "A = 1", "p.b": text}), [], text)
        self.assertNotEqual(faults_of({"p.a": "from p.b import B\nA = 1", "p.b": "from p.a import A\nB = 1"}), [])
        self.assertNotEqual(faults_of({"p.a": "A = 1", "p.b": "from p.a import A", "p.c": "from p.b import A"}), [])


if __name__ == "__main__":
    unittest.main()
