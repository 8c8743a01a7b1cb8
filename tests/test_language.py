"""The rules of the program's language that can be seen file by file."""

import ast
import builtins
import re
import unittest
from pathlib import Path

PACKAGE = Path(__file__).resolve().parent.parent / "paygaps"

STATEMENTS = (ast.Assign, ast.AugAssign, ast.If, ast.While, ast.For, ast.Return, ast.Break, ast.Continue, ast.Pass,
              ast.Raise, ast.Try, ast.FunctionDef, ast.ClassDef, ast.ImportFrom)
OUT_OF_PLACE = (ast.GeneratorExp, ast.SetComp, ast.DictComp, ast.NamedExpr, ast.Starred, ast.Set, ast.Div,
                ast.Await, ast.Yield, ast.YieldFrom)
OWN_NAMES = """len range enumerate zip min max sum abs sorted reversed int str bool list tuple dict set frozenset
isinstance ord repr any all divmod Exception ValueError TypeError KeyError IndexError LookupError ZeroDivisionError
ArithmeticError OverflowError RuntimeError NotImplementedError AttributeError StopIteration""".split()
OWN_METHODS = """append clear copy count endswith extend find get index insert isalnum isalpha isdigit islower isspace
isupper items join keys ljust lower lstrip partition pop remove replace reverse rfind rjust rpartition rsplit rstrip
setdefault split splitlines startswith strip update upper values zfill bit_length""".split()
OUT_WORDS = """type typing typing_extensions enum Enum IntEnum StrEnum Flag IntFlag Generic Protocol ABC ABCMeta
namedtuple NamedTuple TypedDict TYPE_CHECKING abstractmethod""".split()
OUT_PARTS = ("dataclass", "overload", "contextmanager")


def files():
    return sorted(path for path in PACKAGE.rglob("*") if "__pycache__" not in path.parts)


def is_text(statement):
    return isinstance(statement, ast.Expr) and isinstance(statement.value, ast.Constant)


def defined_names(path):
    names = []
    for part in ast.parse(path.read_text()).body:
        if isinstance(part, (ast.FunctionDef, ast.ClassDef)):
            names.append(part.name)
        if isinstance(part, ast.Assign):
            names.append(part.targets[0].id)
    return names


class Language(unittest.TestCase):
    def each_tree(self):
        for path in files():
            with self.subTest(path.name):
                tree = ast.parse(path.read_text(encoding="ascii"))
                yield path, tree, list(ast.walk(tree))

    def test_files_and_signs(self):
        self.assertIn(PACKAGE / "__init__.py", files())
        for path in files():
            self.assertRegex(path.name, r"^[a-z0-9_]+\.py$")
            self.assertRegex(path.read_text(encoding="utf-8"), r"^[ -~\n]*$")

    def test_sizes(self):
        for path, _, nodes in self.each_tree():
            rows = path.read_text().split("\n")
            self.assertLessEqual(len(rows), 400)
            self.assertLessEqual(max(len(row) for row in rows), 120)
            for node in nodes:
                if isinstance(node, ast.FunctionDef):
                    self.assertLessEqual(node.end_lineno - node.lineno + 1, 40, node.name)

    def test_words(self):
        for path, _, _ in self.each_tree():
            text = path.read_text()
            self.assertEqual([word for word in re.findall(r"\w+", text) if word in OUT_WORDS], [])
            self.assertEqual([part for part in OUT_PARTS if part in text], [])

    def test_statements_and_expressions(self):
        for _, tree, nodes in self.each_tree():
            for node in nodes:
                self.assertNotIsInstance(node, OUT_OF_PLACE)
                if isinstance(node, ast.Expr):
                    first = is_text(node) and tree.body[0] is node
                    self.assertTrue(first or isinstance(node.value, ast.Call), node.lineno)
                elif isinstance(node, ast.stmt):
                    self.assertIsInstance(node, STATEMENTS)
                if isinstance(node, ast.Constant):
                    self.assertNotIsInstance(node.value, (float, bytes, complex))
                    self.assertNotIn("%", str(node.value))
                if isinstance(node, ast.Assign):
                    self.assertEqual(len(node.targets), 1)
                    self.assertNotIsInstance(node.targets[0], ast.Tuple)
                if isinstance(node, (ast.For, ast.While)):
                    self.assertEqual(node.orelse, [])
                if isinstance(node, ast.ListComp):
                    self.assertEqual(len(node.generators), 1)
                    self.assertLessEqual(len(node.generators[0].ifs), 1)
                if isinstance(node, ast.Compare) and isinstance(node.ops[0], (ast.Is, ast.IsNot)):
                    self.assertIsInstance(node.comparators[0], ast.Constant)

    def test_functions_and_classes(self):
        for _, _, nodes in self.each_tree():
            for node in nodes:
                if isinstance(node, ast.FunctionDef):
                    self.assertEqual(node.decorator_list, [])
                    told = node.args
                    self.assertFalse(told.vararg or told.kwarg or told.kwonlyargs or told.posonlyargs, node.name)
                if isinstance(node, ast.ClassDef):
                    self.assertEqual(node.decorator_list, [])
                    self.assertLessEqual(len(node.bases), 1)
                    for part in node.body:
                        self.assertIsInstance(part, (ast.FunctionDef, ast.Pass))

    def test_imports(self):
        for path, tree, nodes in self.each_tree():
            for node in nodes:
                self.assertNotIsInstance(node, ast.Import)
                if isinstance(node, ast.ImportFrom):
                    self.assertIn(node, tree.body)
                    self.assertEqual(node.level, 0)
                    source = PACKAGE / (node.module.removeprefix("paygaps.") + ".py")
                    for alias in node.names:
                        self.assertIn(alias.name, defined_names(source))

    def test_names(self):
        own = set(OWN_NAMES)
        others = set(dir(builtins))
        for _, _, nodes in self.each_tree():
            for node in nodes:
                if isinstance(node, ast.Name):
                    self.assertFalse(node.id.startswith("_"), node.id)
                    if isinstance(node.ctx, ast.Store):
                        self.assertNotIn(node.id, others)
                    else:
                        self.assertFalse(node.id in others and node.id not in own, node.id)
                if isinstance(node, ast.arg):
                    self.assertNotIn(node.arg, others)
                    self.assertFalse(node.arg.startswith("_"), node.arg)

    def test_methods(self):
        own = set(OWN_METHODS)
        for path in files():
            for node in ast.walk(ast.parse(path.read_text())):
                if isinstance(node, ast.FunctionDef):
                    own.add(node.name)
        for _, _, nodes in self.each_tree():
            for node in nodes:
                if isinstance(node, ast.Call) and isinstance(node.func, ast.Attribute):
                    self.assertIn(node.func.attr, own)

    def test_no_name_is_a_method_and_a_value(self):
        methods, values = set(), set()
        for _, _, nodes in self.each_tree():
            for node in nodes:
                if isinstance(node, ast.ClassDef):
                    methods.update(part.name for part in node.body if isinstance(part, ast.FunctionDef))
                if isinstance(node, ast.Attribute) and isinstance(node.ctx, ast.Store):
                    values.add(node.attr)
        self.assertEqual(methods & values, set())
        kept = set().union(*[dir(kind) for kind in (str, int, list, tuple, dict, set, bytes)])
        self.assertEqual((methods - {"__init__"}) & kept, set())
        self.assertEqual(values & kept, set())

    def test_no_files_draw_from_one_another(self):
        drawn = {}
        for path, tree, _ in self.each_tree():
            parts = [part.module for part in tree.body if isinstance(part, ast.ImportFrom)]
            drawn[path.stem] = {part.removeprefix("paygaps.") for part in parts}
        # Whatever draws from nothing that is left is taken away, until nothing is left.
        while drawn:
            free = [name for name, parts in drawn.items() if not parts & set(drawn)]
            self.assertNotEqual(free, [], drawn)
            drawn = {name: parts for name, parts in drawn.items() if name not in free}
