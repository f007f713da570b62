"""What LANGUAGE.md asks that can be seen by reading the package's files."""

import ast
import builtins
import pathlib
import re
import unittest

PACKAGE = pathlib.Path(__file__).resolve().parent.parent / "noasking"
OWN_NAMES = set(
    "len range enumerate zip min max sum abs sorted reversed int str bool list tuple dict set frozenset isinstance ord "
    "repr any all divmod Exception ValueError TypeError KeyError IndexError LookupError ZeroDivisionError "
    "ArithmeticError OverflowError RuntimeError NotImplementedError AttributeError StopIteration".split()
)
METHODS = set(
    "append clear copy count endswith extend find get index insert isalnum isalpha isdigit islower isspace isupper "
    "items join keys ljust lower lstrip partition pop remove replace reverse rfind rjust rpartition rsplit rstrip "
    "setdefault split splitlines startswith strip update upper values zfill bit_length".split()
)
TWO_UNDERSCORES = {"__init__", "__eq__", "__repr__", "__str__", "__len__"}
WORDS = re.compile(
    r"\b(type|typing|typing_extensions|enum|Enum|IntEnum|StrEnum|Flag|IntFlag|Generic|Protocol|ABC|ABCMeta|namedtuple|"
    r"NamedTuple|TypedDict|TYPE_CHECKING|abstractmethod)\b|dataclass|overload|contextmanager"
)
NOT_USED = set("register mro elements open input version_info with_traceback add_note".split())
STATEMENTS = (
    ast.FunctionDef, ast.ClassDef, ast.Return, ast.Assign, ast.AugAssign, ast.For, ast.While, ast.If, ast.Raise,
    ast.Try, ast.ImportFrom, ast.Expr, ast.Pass, ast.Break, ast.Continue,
)
EXPRESSIONS = (
    ast.BoolOp, ast.BinOp, ast.UnaryOp, ast.Lambda, ast.IfExp, ast.Dict, ast.Set, ast.ListComp, ast.Compare, ast.Call,
    ast.FormattedValue, ast.JoinedStr, ast.Constant, ast.Attribute, ast.Subscript, ast.Name, ast.List, ast.Tuple,
    ast.Slice,
)


def line_faults(text):
    """Faults that are seen line by line, as a rule's name and a line's number."""
    found = []
    lines = text.split("\n")
    if len(lines) - 1 > 400 or not text.endswith("\n"):
        found.append(("L10", len(lines)))
    for number, line in enumerate(lines, start=1):
        if len(line) > 120 or "\t" in line:
            found.append(("L10", number))
        if any(not " " <= sign <= "~" for sign in line.replace("\t", "")):
            found.append(("L14", number))
        if WORDS.search(line):
            found.append(("L17", number))
    return found


def function_fault(node):
    arguments = node.args
    if node.end_lineno - node.lineno + 1 > 40:
        return "L10"
    if node.decorator_list or arguments.vararg or arguments.kwarg or arguments.kwonlyargs or arguments.posonlyargs:
        return "L4"
    if node.returns or any(one.annotation for one in arguments.args):
        return "L21"
    return None


def statement_fault(node):
    if not isinstance(node, STATEMENTS):
        return "L6"
    if isinstance(node, ast.FunctionDef):
        return function_fault(node)
    if isinstance(node, ast.ClassDef) and (node.decorator_list or node.keywords or len(node.bases) > 1):
        return "L5"
    if isinstance(node, (ast.For, ast.While)) and node.orelse or isinstance(node, ast.Try) and node.finalbody:
        return "L6"
    if isinstance(node, ast.Assign) and len(node.targets) > 1:
        return "L6"
    if isinstance(node, ast.ImportFrom) and (node.level or not node.module.startswith("noasking.")):
        return "L2"
    if isinstance(node, ast.Expr) and not isinstance(node.value, (ast.Call, ast.Constant)):
        return "L6"
    return None


def expression_fault(node):
    if not isinstance(node, EXPRESSIONS):
        return "L7"
    if isinstance(node, ast.Constant) and not (node.value is None or isinstance(node.value, (int, str))):
        return "L7"
    if isinstance(node, ast.ListComp) and (len(node.generators) > 1 or len(node.generators[0].ifs) > 1):
        return "L7"
    if isinstance(node, ast.BinOp) and isinstance(node.op, (ast.Div, ast.MatMult)):
        return "L7"
    if isinstance(node, ast.BinOp) and isinstance(node.op, ast.Pow) and not isinstance(node.right, ast.Constant):
        return "L27"
    if isinstance(node, ast.Compare) and any(isinstance(one, (ast.Is, ast.IsNot)) for one in node.ops):
        if not all(isinstance(one, ast.Constant) for one in node.comparators):
            return "L20"
    if isinstance(node, ast.Name) and isinstance(node.ctx, ast.Load):
        return "L8" if hasattr(builtins, node.id) and node.id not in OWN_NAMES else None
    return None


def names_bound(tree):
    """Every name that is bound in a file, with its line."""
    for node in ast.walk(tree):
        if isinstance(node, (ast.FunctionDef, ast.ClassDef)):
            yield node.name, node.lineno
        elif isinstance(node, ast.arg):
            yield node.arg, node.lineno
        elif isinstance(node, ast.alias):
            yield node.asname or node.name, node.lineno
        elif isinstance(node, (ast.Name, ast.Attribute)) and isinstance(node.ctx, ast.Store):
            yield (node.id if isinstance(node, ast.Name) else node.attr), node.lineno
        elif isinstance(node, ast.ExceptHandler) and node.name:
            yield node.name, node.lineno


def name_fault(name):
    if not re.fullmatch("[A-Za-z][A-Za-z0-9_]*", name) and name not in TWO_UNDERSCORES:
        return "L12"
    if name in NOT_USED:
        return "L17"
    return "L15" if hasattr(builtins, name) and name not in TWO_UNDERSCORES else None


def faults(text):
    """Every fault of a file that can be seen here, as a rule's name and a line's number."""
    found = line_faults(text)
    tree = ast.parse(text)
    for node in ast.walk(tree):
        if isinstance(node, ast.stmt):
            found.append((statement_fault(node), node.lineno))
        elif isinstance(node, ast.expr):
            found.append((expression_fault(node), node.lineno))
    found.extend((name_fault(name), line) for name, line in names_bound(tree))
    return sorted((rule, line) for rule, line in found if rule)


def files():
    return sorted(path for path in PACKAGE.rglob("*") if "__pycache__" not in path.parts)


def methods_called(tree):
    return {node.func.attr for node in ast.walk(tree)
            if isinstance(node, ast.Call) and isinstance(node.func, ast.Attribute)}


class ThePackage(unittest.TestCase):
    def test_its_files(self):
        names = [path.name for path in files()]
        self.assertIn("__init__.py", names)
        self.assertIn("copies.py", names)
        for path in files():
            with self.subTest(path.name):
                self.assertTrue(path.is_file())
                self.assertEqual(path.parent, PACKAGE)
                self.assertRegex(path.name, r"^(__init__|[a-z][a-z0-9_]*)\.py$")
                self.assertTrue(path.stem == "__init__" or not hasattr(builtins, path.stem))
                self.assertNotRegex(path.stem, r"^(test.*|site|conftest|sitecustomize|usercustomize)$")

    def test_each_file_keeps_to_the_language(self):
        for path in files():
            with self.subTest(path.name):
                self.assertEqual(faults(path.read_bytes().decode("ascii")), [])

    def test_no_name_stands_twice_at_a_files_top(self):
        for path in files():
            names = []
            for node in ast.parse(path.read_text()).body:
                if isinstance(node, ast.Assign):
                    names += [target.id for target in node.targets]
                elif isinstance(node, ast.ImportFrom):
                    names += [one.name for one in node.names]
                elif isinstance(node, (ast.FunctionDef, ast.ClassDef)):
                    names.append(node.name)
            with self.subTest(path.name):
                self.assertEqual(len(names), len(set(names)))

    def test_methods_are_the_languages_or_the_programs_own(self):
        trees = [ast.parse(path.read_text()) for path in files()]
        own = {node.name for tree in trees for node in ast.walk(tree) if isinstance(node, ast.FunctionDef)}
        for tree in trees:
            self.assertLessEqual(methods_called(tree), METHODS | own)

    def test_no_local_is_called_like_a_class_or_an_import(self):
        for path in files():
            tree = ast.parse(path.read_text())
            top = {one.name for node in tree.body if isinstance(node, ast.ImportFrom) for one in node.names}
            top |= {node.name for node in tree.body if isinstance(node, ast.ClassDef)}
            for function in [node for node in ast.walk(tree) if isinstance(node, ast.FunctionDef)]:
                inside = {name for node in [function.args, *function.body] for name, line in names_bound(node)}
                with self.subTest(path.name, function=function.name):
                    self.assertEqual(inside & top, set())

    def test_no_two_files_draw_from_one_another(self):
        drawn = {path.stem: {node.module.split(".")[1] for node in ast.parse(path.read_text()).body
                             if isinstance(node, ast.ImportFrom)} for path in files()}
        while drawn:
            free = [stem for stem, others in drawn.items() if not others & set(drawn)]
            self.assertTrue(free, drawn)
            drawn = {stem: others for stem, others in drawn.items() if stem not in free}


class TheReading(unittest.TestCase):
    """Each fault is found in a text that has it; else the tests above would show nothing."""

    def rules(self, text):
        return [rule for rule, line in faults(text)]

    def test_sizes(self):
        forty = "def f():\n" + "    pass\n" * 39
        self.assertEqual(self.rules(forty), [])
        self.assertEqual(self.rules(forty + "    pass\n"), ["L10"])
        self.assertEqual(self.rules("#\n" * 400), [])
        self.assertEqual(self.rules("#\n" * 401), ["L10"])
        self.assertEqual(self.rules("#" * 120 + "\n"), [])
        self.assertEqual(self.rules("#" * 121 + "\n"), ["L10"])
        self.assertEqual(self.rules("#\ta\n"), ["L10"])

    def test_signs(self):
        self.assertEqual(self.rules("# ~\n"), [])
        self.assertEqual(self.rules("# \u00e9\n"), ["L14"])
        self.assertEqual(self.rules("# \x7f\n"), ["L14"])
        self.assertEqual(self.rules("# a\r\n"), ["L14"])

    def test_the_other_rules(self):
        for rule, text in (
            ("L2", "from os.path import join\n"), ("L2", "from .copies import answers\n"), ("L6", "import sys\n"),
            ("L4", "def f(*a):\n    pass\n"), ("L4", "def f(**a):\n    pass\n"), ("L6", "def f():\n    global a\n"),
            ("L6", "a = b = 1\n"), ("L6", "def f(x):\n    del x\n"), ("L6", "assert 1\n"), ("L7", "a = 1 / 2\n"),
            ("L7", "a = 1.5\n"), ("L7", "a = b''\n"), ("L7", "a = {1: 2 for b in c}\n"), ("L7", "a = (b := 1)\n"),
            ("L7", "a = [b for c in d for b in c]\n"), ("L8", "a = map\n"), ("L8", "a = chr(1)\n"),
            ("L12", "a_ = 1\nb__a = 2\n_c = 3\n"), ("L15", "def f(next):\n    pass\n"), ("L17", "# a type\n"),
            ("L17", "def register():\n    pass\n"), ("L20", "a = b is c\n"), ("L21", "def f(a: int):\n    pass\n"),
            ("L27", "a = 2 ** b\n"),
        ):
            with self.subTest(text):
                self.assertIn(rule, self.rules(text))


if __name__ == "__main__":
    unittest.main()
