"""What LANGUAGE.md asks that can be seen by reading the package's files."""

import ast
import builtins
import pathlib
import re
import unittest

PACKAGE = pathlib.Path(__file__).resolve().parent.parent / "noasking"
OWN_NAMES = set(
    "len range enumerate zip min max sum abs sorted reversed int str bool list tuple dict set frozenset isinstance ord "
    "repr any all divmod Exception ValueError TypeError KeyError IndexError LookupError ZeroDivisionError "
    "ArithmeticError OverflowError RuntimeError NotImplementedError AttributeError StopIteration".split()
)
METHODS = set(
    "append clear copy count endswith extend find get index insert isalnum isalpha isdigit islower isspace isupper "
    "items join keys ljust lower lstrip partition pop remove replace reverse rfind rjust rpartition rsplit rstrip "
    "setdefault split splitlines startswith strip update upper values zfill bit_length".split()
)
TWO_UNDERSCORES = {"__init__", "__eq__", "__repr__", "__str__", "__len__"}
WORDS = re.compile(
    r"\b(type|typing|typing_extensions|enum|Enum|IntEnum|StrEnum|Flag|IntFlag|Generic|Protocol|ABC|ABCMeta|namedtuple|"
    r"NamedTuple|TypedDict|TYPE_CHECKING|abstractmethod)\b|dataclass|overload|contextmanager"
)
NOT_USED = set("register mro elements open input version_info with_traceback add_note".split())
STATEMENTS = (
    ast.FunctionDef, ast.ClassDef, ast.Return, ast.Assign, ast.AugAssign, ast.For, ast.While, ast.If, ast.Raise,
    ast.Try, ast.ImportFrom, ast.Expr, ast.Pass, ast.Break, ast.Continue,
)
EXPRESSIONS = (
    ast.BoolOp, ast.BinOp, ast.UnaryOp, ast.Lambda, ast.IfExp, ast.Dict, ast.Set, ast.ListComp, ast.Compare, ast.Call,
    ast.FormattedValue, ast.JoinedStr, ast.Constant, ast.Attribute, ast.Subscript, ast.Name, ast.List, ast.Tuple,
    ast.Slice,
)


KEYWORDS = {"sorted": {"key", "reverse"}, "min": {"key", "default"}, "max": {"key", "default"}, "sum": {"start"},
            "enumerate": {"start"}, "zip": {"strict"}}
WALKED = {"zip", "enumerate", "reversed", "range"}
WALKED_METHODS = {"items", "keys", "values"}
WALKERS = {"list", "tuple", "dict", "sorted", "sum", "any", "all", "enumerate", "zip", "min", "max"}
NOT_VALUES = set("items keys values pop update append clear extend insert remove reverse setdefault sort args encode "
                 "format".split())


def line_faults(text):
    """Faults that are seen line by line, as a rule's name and a line's number."""
    found = []
    lines = text.split("\n")
    if len(lines) - 1 > 400 or not text.endswith("\n"):
        found.append(("L10", len(lines)))
    for number, line in enumerate(lines, start=1):
        if len(line) > 120 or "\t" in line:
            found.append(("L10", number))
        if any(not " " <= sign <= "~" for sign in line.replace("\t", "")):
            found.append(("L14", number))
        if WORDS.search(line):
            found.append(("L17", number))
    return found


def function_fault(node):
    arguments = node.args
    if node.end_lineno - node.lineno + 1 > 40:
        return "L10"
    if node.decorator_list or arguments.vararg or arguments.kwarg or arguments.kwonlyargs or arguments.posonlyargs:
        return "L4"
    if node.returns or any(one.annotation for one in arguments.args):
        return "L21"
    return None


def statement_fault(node):
    if not isinstance(node, STATEMENTS):
        return "L6"
    if isinstance(node, ast.FunctionDef):
        return function_fault(node)
    if isinstance(node, ast.ClassDef) and (node.decorator_list or node.keywords or len(node.bases) > 1):
        return "L5"
    if isinstance(node, (ast.For, ast.While)) and node.orelse or isinstance(node, ast.Try) and node.finalbody:
        return "L6"
    if isinstance(node, ast.Assign) and len(node.targets) > 1:
        return "L6"
    if isinstance(node, ast.ImportFrom) and (node.level or not node.module.startswith("noasking.")):
        return "L2"
    if isinstance(node, ast.Expr) and not isinstance(node.value, (ast.Call, ast.Constant)):
        return "L6"
    return None


def expression_fault(node):
    if not isinstance(node, EXPRESSIONS):
        return "L7"
    if isinstance(node, ast.Constant) and not (node.value is None or isinstance(node.value, (int, str))):
        return "L7"
    if isinstance(node, ast.ListComp) and (len(node.generators) > 1 or len(node.generators[0].ifs) > 1):
        return "L7"
    if isinstance(node, ast.BinOp) and isinstance(node.op, (ast.Div, ast.MatMult)):
        return "L7"
    if isinstance(node, ast.BinOp) and isinstance(node.op, ast.Pow) and not isinstance(node.right, ast.Constant):
        return "L27"
    if isinstance(node, ast.Compare) and any(isinstance(one, (ast.Is, ast.IsNot)) for one in node.ops):
        if not all(isinstance(one, ast.Constant) for one in node.comparators):
            return "L20"
    if isinstance(node, ast.Name) and isinstance(node.ctx, ast.Load):
        return "L8" if hasattr(builtins, node.id) and node.id not in OWN_NAMES else None
    return None


def called(node):
    """By what name something is called, and whether as a method."""
    if isinstance(node, ast.Call) and isinstance(node.func, (ast.Name, ast.Attribute)):
        method = isinstance(node.func, ast.Attribute)
        return (node.func.attr if method else node.func.id), method
    return None, False


def walked_on_the_spot(tree):
    """All that stands where a walk begins."""
    for node in ast.walk(tree):
        if isinstance(node, (ast.For, ast.comprehension)):
            yield node.iter
        elif called(node)[0] in WALKERS and not called(node)[1] and node.args:
            yield node.args[0]


def walk_faults(tree):
    spots = {id(node) for node in walked_on_the_spot(tree)}
    for node in ast.walk(tree):
        name, method = called(node)
        if name in (WALKED_METHODS if method else WALKED) and id(node) not in spots:
            yield "L23", node.lineno


def call_faults(tree):
    for node in ast.walk(tree):
        name, method = called(node)
        if isinstance(node, ast.Call) and node.keywords:
            if method or not {one.arg for one in node.keywords} <= KEYWORDS.get(name, set()):
                yield "L22", node.lineno
        if name in ("set", "frozenset") and not method or isinstance(node, ast.Set):
            yield "L24", node.lineno
        if isinstance(node, ast.Constant) and isinstance(node.value, str) and "%" in node.value:
            yield "L27", node.lineno
        if isinstance(node, ast.Attribute) and isinstance(node.ctx, ast.Store) and node.attr in NOT_VALUES:
            yield "L26", node.lineno
        if isinstance(node, ast.FunctionDef) and node.name == "__init__":
            if any(isinstance(one, ast.Return) and one.value for one in ast.walk(node)):
                yield "L28", node.lineno


def is_plain(node):
    if isinstance(node, ast.UnaryOp):
        return isinstance(node.op, ast.USub) and is_plain(node.operand)
    return isinstance(node, ast.Constant) or isinstance(node, ast.Tuple) and all(map(is_plain, node.elts))


def top_faults(tree):
    """What stands at a file's top: a docstring, then imports, then plain values, functions and classes."""
    for at, node in enumerate(tree.body):
        docstring = at == 0 and isinstance(node, ast.Expr) and isinstance(node.value, ast.Constant)
        if isinstance(node, ast.ImportFrom):
            if any(not isinstance(one, (ast.ImportFrom, ast.Expr)) for one in tree.body[:at]):
                yield "L2", node.lineno
        elif isinstance(node, ast.Assign):
            if not is_plain(node.value):
                yield "L3", node.lineno
        elif not docstring and not isinstance(node, (ast.FunctionDef, ast.ClassDef)):
            yield "L3", node.lineno


def names_bound(tree):
    """Every name that is bound in a file, with its line."""
    for node in ast.walk(tree):
        if isinstance(node, (ast.FunctionDef, ast.ClassDef)):
            yield node.name, node.lineno
        elif isinstance(node, ast.arg):
            yield node.arg, node.lineno
        elif isinstance(node, ast.alias):
            yield node.asname or node.name, node.lineno
        elif isinstance(node, (ast.Name, ast.Attribute)) and isinstance(node.ctx, ast.Store):
            yield (node.id if isinstance(node, ast.Name) else node.attr), node.lineno
        elif isinstance(node, ast.ExceptHandler) and node.name:
            yield node.name, node.lineno


def name_fault(name):
    if not re.fullmatch("[A-Za-z][A-Za-z0-9_]*", name) and name not in TWO_UNDERSCORES:
        return "L12"
    if name in NOT_USED:
        return "L17"
    return "L15" if hasattr(builtins, name) and name not in TWO_UNDERSCORES else None


def faults(text):
    """Every fault of a file that can be seen here, as a rule's name and a line's number."""
    found = line_faults(text)
    tree = ast.parse(text)
    for node in ast.walk(tree):
        if isinstance(node, ast.stmt):
            found.append((statement_fault(node), node.lineno))
        elif isinstance(node, ast.expr):
            found.append((expression_fault(node), node.lineno))
    found.extend((name_fault(name), line) for name, line in names_bound(tree))
    found.extend([*walk_faults(tree), *call_faults(tree), *top_faults(tree)])
    return sorted((rule, line) for rule, line in found if rule)


def files():
    return sorted(path for path in PACKAGE.rglob("*") if "__pycache__" not in path.parts)


def methods_called(tree):
    return {node.func.attr for node in ast.walk(tree)
            if isinstance(node, ast.Call) and isinstance(node.func, ast.Attribute)}


class ThePackage(unittest.TestCase):
    def test_its_files(self):
        names = [path.name for path in files()]
        self.assertIn("__init__.py", names)
        self.assertIn("copies.py", names)
        for path in files():
            with self.subTest(path.name):
                self.assertTrue(path.is_file())
                self.assertEqual(path.parent, PACKAGE)
                self.assertRegex(path.name, r"^(__init__|[a-z][a-z0-9_]*)\.py$")
                self.assertTrue(path.stem == "__init__" or not hasattr(builtins, path.stem))
                self.assertNotRegex(path.stem, r"^(test.*|site|conftest|sitecustomize|usercustomize)$")

    def test_each_file_keeps_to_the_language(self):
        for path in files():
            with self.subTest(path.name):
                self.assertEqual(faults(path.read_bytes().decode("ascii")), [])

    def test_no_name_stands_twice_at_a_files_top(self):
        for path in files():
            names = []
            for node in ast.parse(path.read_text()).body:
                if isinstance(node, ast.Assign):
                    names += [target.id for target in node.targets]
                elif isinstance(node, ast.ImportFrom):
                    names += [one.name for one in node.names]
                elif isinstance(node, (ast.FunctionDef, ast.ClassDef)):
                    names.append(node.name)
            with self.subTest(path.name):
                self.assertEqual(len(names), len(set(names)))

    def test_methods_are_the_languages_or_the_programs_own(self):
        trees = [ast.parse(path.read_text()) for path in files()]
        own = {node.name for tree in trees for node in ast.walk(tree) if isinstance(node, ast.FunctionDef)}
        for tree in trees:
            self.assertLessEqual(methods_called(tree), METHODS | own)

    def test_no_local_is_called_like_a_class_or_an_import(self):
        for path in files():
            tree = ast.parse(path.read_text())
            top = {one.name for node in tree.body if isinstance(node, ast.ImportFrom) for one in node.names}
            top |= {node.name for node in tree.body if isinstance(node, ast.ClassDef)}
            for function in [node for node in ast.walk(tree) if isinstance(node, ast.FunctionDef)]:
                inside = {name for node in [function.args, *function.body] for name, line in names_bound(node)}
                with self.subTest(path.name, function=function.name):
                    self.assertEqual(inside & top, set())

    def test_no_two_files_draw_from_one_another(self):
        drawn = {path.stem: {node.module.split(".")[1] for node in ast.parse(path.read_text()).body
                             if isinstance(node, ast.ImportFrom)} for path in files()}
        while drawn:
            free = [stem for stem, others in drawn.items() if not others & set(drawn)]
            self.assertTrue(free, drawn)
            drawn = {stem: others for stem, others in drawn.items() if stem not in free}


    def test_names_are_drawn_from_the_file_that_defines_them_and_used(self):
        trees = {path.stem: ast.parse(path.read_text()) for path in files()}
        defined = {stem: {name for node in tree.body if not isinstance(node, ast.ImportFrom)
                          for name in top_names(node)} for stem, tree in trees.items()}
        for stem, tree in trees.items():
            used = {node.id for node in ast.walk(tree) if isinstance(node, ast.Name)}
            for node in tree.body:
                if isinstance(node, ast.ImportFrom):
                    names = {one.name for one in node.names}
                    with self.subTest(stem, module=node.module):
                        self.assertLessEqual(names, defined[node.module.split(".")[1]])
                        self.assertLessEqual(names, used)

    def test_every_function_is_used(self):
        trees = [ast.parse(path.read_text()) for path in files()]
        defined = {node.name for tree in trees for node in ast.walk(tree) if isinstance(node, ast.FunctionDef)}
        used = {node.id for tree in trees for node in ast.walk(tree) if isinstance(node, ast.Name)}
        used |= {node.attr for tree in trees for node in ast.walk(tree) if isinstance(node, ast.Attribute)}
        self.assertEqual(defined - used - {"__init__"}, {"answers"})

    def test_no_name_is_a_method_and_a_value(self):
        trees = [ast.parse(path.read_text()) for path in files()]
        methods = {one.name for tree in trees for node in tree.body if isinstance(node, ast.ClassDef)
                   for one in node.body if isinstance(one, ast.FunctionDef)}
        values = {node.attr for tree in trees for node in ast.walk(tree)
                  if isinstance(node, ast.Attribute) and isinstance(node.ctx, ast.Store)}
        self.assertEqual(methods & values, set())

    def test_a_class_holds_methods_alone(self):
        for path in files():
            for node in ast.parse(path.read_text()).body:
                if isinstance(node, ast.ClassDef):
                    for at, one in enumerate(node.body):
                        self.assertTrue(isinstance(one, ast.FunctionDef) or at == 0 and isinstance(one, ast.Expr))


def top_names(node):
    if isinstance(node, ast.Assign):
        return [target.id for target in node.targets]
    return [node.name] if isinstance(node, (ast.FunctionDef, ast.ClassDef)) else []


class TheReading(unittest.TestCase):
    """Each fault is found in a text that has it; else the tests above would show nothing."""

    def rules(self, text):
        return [rule for rule, line in faults(text)]

    def test_sizes(self):
        forty = "def f():\n" + "    pass\n" * 39
        self.assertEqual(self.rules(forty), [])
        self.assertEqual(self.rules(forty + "    pass\n"), ["L10"])
        self.assertEqual(self.rules("#\n" * 400), [])
        self.assertEqual(self.rules("#\n" * 401), ["L10"])
        self.assertEqual(self.rules("#" * 120 + "\n"), [])
        self.assertEqual(self.rules("#" * 121 + "\n"), ["L10"])
        self.assertEqual(self.rules("#\ta\n"), ["L10"])

    def test_signs(self):
        self.assertEqual(self.rules("# ~\n"), [])
        self.assertEqual(self.rules("# \u00e9\n"), ["L14"])
        self.assertEqual(self.rules("# \x7f\n"), ["L14"])
        self.assertEqual(self.rules("# a\r\n"), ["L14"])

    def test_what_is_let(self):
        for text in (
            "A = -1\nB = (1, 'a', (2, 3))\n", "def f(x):\n    return sorted(x, key=len, reverse=True)\n",
            "def f(x):\n    for y in range(x):\n        pass\n", "def f(d):\n    return [k for k in d.items()]\n",
            "def f(x):\n    return list(zip(x, x, strict=True))\n",
            "class A:\n    def __init__(self):\n        return\n",
        ):
            with self.subTest(text):
                self.assertEqual(self.rules(text), [])

    def test_the_other_rules(self):
        for rule, text in (
            ("L2", "from os.path import join\n"), ("L2", "from .copies import answers\n"), ("L6", "import sys\n"),
            ("L4", "def f(*a):\n    pass\n"), ("L4", "def f(**a):\n    pass\n"), ("L6", "def f():\n    global a\n"),
            ("L6", "a = b = 1\n"), ("L6", "def f(x):\n    del x\n"), ("L6", "assert 1\n"), ("L7", "a = 1 / 2\n"),
            ("L7", "a = 1.5\n"), ("L7", "a = b''\n"), ("L7", "a = {1: 2 for b in c}\n"), ("L7", "a = (b := 1)\n"),
            ("L7", "a = [b for c in d for b in c]\n"), ("L8", "a = map\n"), ("L8", "a = chr(1)\n"),
            ("L12", "a_ = 1\nb__a = 2\n_c = 3\n"), ("L15", "def f(next):\n    pass\n"), ("L17", "# a type\n"),
            ("L17", "def register():\n    pass\n"), ("L20", "a = b is c\n"), ("L21", "def f(a: int):\n    pass\n"),
            ("L27", "a = 2 ** b\n"), ("L27", "a = '%'\n"), ("L3", "a = f()\n"), ("L3", "a = [1]\nb = [a]\n"),
            ("L3", "print()\n"), ("L3", "if a:\n    b = 1\n"), ("L2", "a = 1\nfrom noasking.bits import has\n"),
            ("L22", "def f(x):\n    return sorted(x, keys=f)\n"), ("L22", "def f(x):\n    x.pop(k=1)\n"),
            ("L23", "def f():\n    x = range(3)\n"), ("L23", "def f(d):\n    return d.items()\n"),
            ("L23", "def f(x):\n    for y in reversed(range(x)):\n        pass\n"),
            ("L24", "def f(x):\n    return set(x)\n"), ("L24", "def f(x):\n    return x in {1, 2}\n"),
            ("L26", "def f(x):\n    x.items = 1\n"),
            ("L28", "class A:\n    def __init__(self):\n        return None\n"),
        ):
            with self.subTest(text):
                self.assertIn(rule, self.rules(text))


if __name__ == "__main__":
    unittest.main()
