"""What of the program's language a script can see, over the package's files.

Each test is named by the rules that it looks at. The samples at the end see to
it that the looking itself finds what it's there to find.
"""

import ast
import builtins
import pathlib
import re
import unittest

PACKAGE = "partscore"
ROOT = pathlib.Path(__file__).resolve().parent.parent

STATEMENTS = (
    ast.Assign, ast.AugAssign, ast.If, ast.While, ast.For, ast.Return, ast.Break, ast.Continue,
    ast.Pass, ast.Raise, ast.Try, ast.Expr, ast.FunctionDef, ast.ClassDef, ast.ImportFrom,
)
EXPRESSIONS = (
    ast.Constant, ast.Name, ast.List, ast.Tuple, ast.Dict, ast.Set, ast.BinOp, ast.UnaryOp,
    ast.BoolOp, ast.Compare, ast.IfExp, ast.Call, ast.Attribute, ast.Subscript, ast.Slice,
    ast.ListComp, ast.Lambda, ast.JoinedStr, ast.FormattedValue,
)
PYTHONS_NAMES = set(
    "len range enumerate zip min max sum abs sorted reversed int str bool list tuple dict set frozenset"
    " isinstance ord repr any all divmod Exception ValueError TypeError KeyError IndexError LookupError"
    " ZeroDivisionError ArithmeticError OverflowError RuntimeError NotImplementedError AttributeError"
    " StopIteration".split())
PYTHONS_METHODS = set(
    "append clear copy count endswith extend find get index insert isalnum isalpha isdigit islower isspace"
    " isupper items join keys ljust lower lstrip partition pop remove replace reverse rfind rjust rpartition"
    " rsplit rstrip setdefault split splitlines startswith strip update upper values zfill bit_length".split())
VALUES_NOT_SO_CALLED = set(
    "items keys values pop update append clear extend insert remove reverse setdefault sort args encode"
    " format".split())
UNUSED_NAMES = set(
    "register mro elements open input version_info with_traceback add_note attrgetter breakpoint builtins"
    " compile copyright credits delattr dir eval exec exit gc getattr globals hasattr help id importlib"
    " license locals methodcaller os quit setattr super type vars sys typing typing_extensions enum Enum"
    " IntEnum StrEnum Flag IntFlag Generic Protocol ABC ABCMeta namedtuple NamedTuple TypedDict"
    " TYPE_CHECKING abstractmethod format format_map".split())
FILE_NAMES_NOT_TAKEN = {"site", "conftest", "sitecustomize", "usercustomize", "testing", "test", "tests"}
PLAIN_NAME = re.compile("[A-Za-z][A-Za-z0-9_]*")
UNDERSCORED = {"__init__", "__eq__", "__repr__", "__str__", "__len__", "__all__", "__version__"}


def sign_faults(text):
    """L10's lengths of rows and of the file; L14's signs, and no tab."""
    faults = []
    rows = text.split("\n")
    if len(rows) - (rows[-1] == "") > 399:
        faults.append("L10: more than 399 rows")
    for number, row in enumerate(rows, start=1):
        if len(row) > 120:
            faults.append(f"L10: row {number} has more than 120 signs")
        if [sign for sign in row if not " " <= sign <= "~"]:
            faults.append(f"L14: row {number} has a sign that isn't from the blank to ~")
    return faults


def size_faults(tree):
    """L10's length of functions."""
    return [
        f"L10: {node.name} has more than 40 rows" for node in ast.walk(tree)
        if isinstance(node, ast.FunctionDef) and node.end_lineno - node.lineno + 1 > 40
    ]


def import_faults(tree, tops):
    """L2 and L16: rows at the top, from the package's own file that defines the name.

    tops has, for each module's full name, the names that its file defines.
    """
    faults = []
    ended = False
    for place, node in enumerate(tree.body):
        if isinstance(node, ast.ImportFrom):
            if ended:
                faults.append(f"L2: an import that isn't at the top, row {node.lineno}")
            faults += one_import_faults(node, tops)
        elif not (place == 0 and isinstance(node, ast.Expr)):
            ended = True
    within = [node for node in ast.walk(tree) if isinstance(node, (ast.Import, ast.ImportFrom))]
    for node in within:
        if isinstance(node, ast.Import) or node not in tree.body:
            faults.append(f"L16: another import than a plain from .. import .. at the top, row {node.lineno}")
    return faults


def one_import_faults(node, tops):
    if node.module == "__future__" and [name.name for name in node.names] == ["annotations"]:
        return []
    if node.level or node.module not in tops or node.module.endswith("__main__"):
        return [f"L2: an import that isn't of the package's own modules, row {node.lineno}"]
    return [
        f"L16: {name.name} isn't defined in {node.module}, row {node.lineno}" for name in node.names
        if name.name not in tops[node.module] or name.asname
    ]


def form_faults(tree):
    """L4 to L7 and L21: the kinds of statements and expressions."""
    faults = []
    for node in ast.walk(tree):
        where = getattr(node, "lineno", 0)
        if isinstance(node, ast.stmt) and not isinstance(node, STATEMENTS):
            faults.append(f"L6: {node.__class__.__name__}, row {where}")
        if isinstance(node, ast.expr) and not isinstance(node, EXPRESSIONS):
            faults.append(f"L7: {node.__class__.__name__}, row {where}")
        if isinstance(node, (ast.FunctionDef, ast.ClassDef)) and node.decorator_list:
            faults.append(f"L4: a decorator, row {where}")
        if isinstance(node, ast.arguments) and (node.vararg or node.kwarg or node.kwonlyargs or node.posonlyargs):
            faults.append("L4: parameters that aren't plain")
        if isinstance(node, (ast.While, ast.For)) and node.orelse:
            faults.append(f"L6: else behind a loop, row {where}")
        if isinstance(node, ast.Assign) and (len(node.targets) > 1 or isinstance(node.targets[0], ast.Tuple)):
            faults.append(f"L6: more than one target, row {where}")
        if isinstance(node, ast.Constant) and isinstance(node.value, (float, bytes, complex)):
            faults.append(f"L7: a float or bytes, row {where}")
        if isinstance(node, (ast.Div, ast.MatMult)):
            faults.append("L7: an operator that isn't there")
        if isinstance(node, ast.comprehension) and len(node.ifs) > 1:
            faults.append("L7: more than one if")
        if isinstance(node, ast.ListComp) and len(node.generators) > 1:
            faults.append(f"L7: more than one for, row {where}")
    return faults


def bound_names(tree):
    """All the names that a file gives to something."""
    names = []
    for node in ast.walk(tree):
        if isinstance(node, ast.Name) and not isinstance(node.ctx, ast.Load):
            names.append(node.id)
        elif isinstance(node, (ast.FunctionDef, ast.ClassDef)):
            names.append(node.name)
        elif isinstance(node, ast.arg):
            names.append(node.arg)
        elif isinstance(node, ast.alias):
            names.append(node.asname or node.name)
        elif isinstance(node, ast.ExceptHandler) and node.name:
            names.append(node.name)
    return names


def name_faults(tree):
    """L8, L12, L15, L17: names that are given and names that are used."""
    faults = []
    bound = bound_names(tree)
    for name in bound:
        if not PLAIN_NAME.fullmatch(name) and name not in UNDERSCORED:
            faults.append(f"L12: {name}")
        if name in UNUSED_NAMES or name in dir(builtins):
            faults.append(f"L15, L17: {name}")
    for node in ast.walk(tree):
        if isinstance(node, ast.Name) and isinstance(node.ctx, ast.Load):
            if node.id not in bound and node.id not in PYTHONS_NAMES:
                faults.append(f"L8: {node.id}, row {node.lineno}")
    firm = [node.name for node in tree.body if isinstance(node, ast.ClassDef)]
    firm += [name.name for node in tree.body if isinstance(node, ast.ImportFrom) for name in node.names]
    for node in ast.walk(tree):
        given = node.arg if isinstance(node, ast.arg) else None
        if isinstance(node, ast.Name) and not isinstance(node.ctx, ast.Load):
            given = node.id
        if given in firm:
            faults.append(f"L15: {given} is called like a class or an import")
    return faults


def attribute_faults(trees):
    """L17, L18, L25, L26: methods and values, over all the package's files."""
    faults = []
    methods = []
    values = []
    for tree in trees:
        for node in ast.walk(tree):
            if isinstance(node, ast.ClassDef):
                methods += [part.name for part in node.body if isinstance(part, ast.FunctionDef)]
            if isinstance(node, ast.Attribute) and isinstance(node.ctx, ast.Store):
                values.append(node.attr)
    for name in values:
        if name in methods:
            faults.append(f"L18: {name} is a method and a value")
        if name in VALUES_NOT_SO_CALLED:
            faults.append(f"L26: a value {name}")
    for tree in trees:
        for node in ast.walk(tree):
            if not isinstance(node, ast.Attribute):
                continue
            if node.attr not in PYTHONS_METHODS and node.attr not in methods and node.attr not in values:
                faults.append(f"L25: {node.attr}, row {node.lineno}")
            if node.attr in UNUSED_NAMES:
                faults.append(f"L17: {node.attr}, row {node.lineno}")
    return faults


def top_faults(tree):
    """L3 and L15: what stands at a file's top, each name once."""
    faults = []
    names = []
    for place, node in enumerate(tree.body):
        docstring = place == 0 and isinstance(node, ast.Expr) and isinstance(node.value, ast.Constant)
        if not docstring and not isinstance(node, (ast.ImportFrom, ast.FunctionDef, ast.ClassDef, ast.Assign)):
            faults.append(f"L3: row {node.lineno}")
        names += defined_names(node)
    for name in names:
        if names.count(name) > 1:
            faults.append(f"L15: {name} is bound more than once")
    return faults


def defined_names(node):
    if isinstance(node, (ast.FunctionDef, ast.ClassDef)):
        return [node.name]
    if isinstance(node, ast.Assign):
        return [target.id for target in node.targets if isinstance(target, ast.Name)]
    return []


def tops_of(trees):
    """For each module's full name, the names that its file defines."""
    return {
        module: [name for node in tree.body for name in defined_names(node)]
        for module, tree in trees.items()
    }


def drawn_from(tree):
    return [node.module for node in tree.body if isinstance(node, ast.ImportFrom)]


def goes_in_a_ring(trees):
    """L16: whether two files draw from one another, in whatever many steps."""
    for module in trees:
        reached = []
        waiting = drawn_from(trees[module])
        while waiting:
            other = waiting.pop()
            if other in trees and other not in reached:
                reached.append(other)
                waiting += drawn_from(trees[other])
        if module in reached:
            return True
    return False


def module_name(path):
    parts = list(path.relative_to(ROOT).with_suffix("").parts)
    return ".".join(parts[:-1] if parts[-1] == "__init__" else parts)


def package_paths():
    return [
        path for path in sorted((ROOT / PACKAGE).rglob("*"))
        if "__pycache__" not in path.parts
    ]


class PackagesFiles(unittest.TestCase):
    def setUp(self):
        self.paths = [path for path in package_paths() if path.suffix == ".py"]
        self.trees = {module_name(path): ast.parse(path.read_text("utf-8")) for path in self.paths}

    def test_there_are_files(self):
        self.assertIn("partscore", self.trees)
        self.assertIn("partscore.score", self.trees)

    def test_names_of_files_l1_l14(self):
        for path in package_paths():
            with self.subTest(path=path):
                self.assertTrue(path.is_dir() or path.suffix == ".py")
                if path.stem not in ("__init__", "__main__"):
                    self.assertRegex(path.stem, "^[a-z][a-z0-9_]*$")
                self.assertNotIn(path.stem, FILE_NAMES_NOT_TAKEN | UNUSED_NAMES | set(dir(builtins)))
                self.assertFalse(path.stem.startswith("test_"))
                if path.is_dir():
                    self.assertTrue((path / "__init__.py").is_file())

    def test_signs_and_rows_l10_l14(self):
        for path in self.paths:
            with self.subTest(path=path):
                self.assertEqual(sign_faults(path.read_bytes().decode("utf-8")), [])

    def test_each_file_by_itself(self):
        tops = tops_of(self.trees)
        for module, tree in self.trees.items():
            with self.subTest(module=module):
                self.assertEqual(size_faults(tree), [])
                self.assertEqual(import_faults(tree, tops), [])
                self.assertEqual(form_faults(tree), [])
                self.assertEqual(name_faults(tree), [])
                self.assertEqual(top_faults(tree), [])

    def test_attributes_l18_l25_l26(self):
        self.assertEqual(attribute_faults(list(self.trees.values())), [])

    def test_no_two_files_draw_from_one_another_l16(self):
        self.assertFalse(goes_in_a_ring(self.trees))

    def test_the_interface_stands_in_its_own_file_l16(self):
        for module, names in tops_of(self.trees).items():
            self.assertEqual("answers" in names, module == "partscore.score")


class Samples(unittest.TestCase):
    """The looking itself, on code that it's to let through or to send back."""

    tops = {"partscore": [], "partscore.bars": ["read_bar"], "partscore.__main__": ["main"]}

    def imports(self, text):
        return import_faults(ast.parse(text), self.tops)

    def test_signs(self):
        self.assertEqual(sign_faults("a" * 120 + "\n# ~\n"), [])
        for wrong in ("a" * 121, "a\tb", "# \u00e4", "a\r\n", "'\x7f'"):
            with self.subTest(wrong=wrong):
                self.assertEqual(len(sign_faults(wrong)), 1)

    def test_how_many_rows(self):
        self.assertEqual(sign_faults("a\n" * 399), [])
        self.assertEqual(len(sign_faults("a\n" * 400)), 1)

    def test_how_long_a_function(self):
        self.assertEqual(size_faults(ast.parse("def a():\n" + " b()\n" * 39)), [])
        self.assertEqual(len(size_faults(ast.parse("def a():\n" + " b()\n" * 40))), 1)

    def test_imports(self):
        self.assertEqual(self.imports("'A docstring.'\nfrom partscore.bars import read_bar\n"), [])
        for wrong in (
                "import partscore.bars", "import os", "from os import path", "from .bars import read_bar",
                "from partscore.bars import *", "from partscore.bars import other",
                "from partscore import bars", "from partscore.bars import read_bar as other",
                "from partscore.__main__ import main", "a = 1\nfrom partscore.bars import read_bar",
                "def a():\n    from partscore.bars import read_bar"):
            with self.subTest(wrong=wrong):
                self.assertTrue(self.imports(wrong))

    def test_rings(self):
        first = ast.parse("from partscore.b import x")
        second = ast.parse("from partscore.c import x")
        third = ast.parse("from partscore.a import x")
        self.assertTrue(goes_in_a_ring({"partscore.a": first, "partscore.b": second, "partscore.c": third}))
        self.assertFalse(goes_in_a_ring({"partscore.a": first, "partscore.b": second}))

    def test_forms(self):
        for wrong in (
                "with a: pass", "del a", "a = b = 1", "a = 1.5", "a = 3 / 2", "a = {b: 1 for b in c}",
                "a = [b for b in c for d in b]", "a = [*b]", "def a(*b): pass", "while a: pass\nelse: pass",
                "assert a", "a: int = 1", "a = (b for b in c)", "def a():\n    yield 1"):
            with self.subTest(wrong=wrong):
                self.assertTrue(form_faults(ast.parse(wrong)))

    def test_names(self):
        for wrong in (
                "_a = 1", "len = 1", "def a(id): return id", "a = open(b)", "a = print", "def a(_): pass",
                "class A:\n    pass\ndef b(A): pass", "from partscore.bars import c\ndef a():\n    c = 1"):
            with self.subTest(wrong=wrong):
                self.assertTrue(name_faults(ast.parse(wrong)))

    def test_attributes(self):
        for wrong in (
                "a.sort()", "a.mro()", "def b(a):\n    a.keys = 1", "a.format(b)",
                "class A:\n    def b(self):\n        pass\n    def c(self):\n        self.b = 1"):
            with self.subTest(wrong=wrong):
                self.assertTrue(attribute_faults([ast.parse(wrong)]))

    def test_tops(self):
        for wrong in ("a = 1\na = 2", "a()", "if a:\n    b = 1", "def a(): pass\na = 1"):
            with self.subTest(wrong=wrong):
                self.assertTrue(top_faults(ast.parse(wrong)))


if __name__ == "__main__":
    unittest.main()
