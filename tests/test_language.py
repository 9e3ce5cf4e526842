"""The package's own files, held against the rules of its small language as far as they can be seen."""

import ast
import builtins
import re
import unittest
from pathlib import Path

PACKAGE = Path(__file__).resolve().parent.parent / "feelbench"
FILES = sorted(PACKAGE.rglob("*.py"))

STATEMENTS = (
    ast.FunctionDef, ast.ClassDef, ast.Return, ast.Assign, ast.AugAssign, ast.For, ast.While, ast.If, ast.Raise,
    ast.Try, ast.ImportFrom, ast.Expr, ast.Pass, ast.Break, ast.Continue,
)
EXPRESSIONS = (
    ast.BoolOp, ast.BinOp, ast.UnaryOp, ast.Lambda, ast.IfExp, ast.Dict, ast.ListComp, ast.Compare, ast.Call,
    ast.Constant, ast.Attribute, ast.Subscript, ast.Name, ast.List, ast.Tuple, ast.Slice, ast.JoinedStr,
    ast.FormattedValue,
)
PYTHONS_OWN = set(
    "len range enumerate zip min max sum abs sorted reversed int str bool list tuple dict set frozenset isinstance "
    "ord repr any all divmod Exception ValueError TypeError KeyError IndexError LookupError ZeroDivisionError "
    "ArithmeticError OverflowError RuntimeError NotImplementedError AttributeError StopIteration".split()
)
METHODS = set(
    "append clear copy count endswith extend find get index insert isalnum isalpha isdigit islower isspace isupper "
    "items join keys ljust lower lstrip partition pop remove replace reverse rfind rjust rpartition rsplit rstrip "
    "setdefault split splitlines startswith strip update upper values zfill bit_length".split()
)
OWN_VALUES = (str, int, list, dict, set, bytes)
WORDS = re.compile(
    r"\b(type|typing|typing_extensions|enum|Enum|IntEnum|StrEnum|Flag|IntFlag|Generic|Protocol|ABC|ABCMeta|namedtuple|"
    r"NamedTuple|TypedDict|TYPE_CHECKING|abstractmethod)\b|dataclass|overload|contextmanager"
)
UNUSED = set("register mro elements open input version_info with_traceback add_note format format_map".split())
WALKED = ("zip", "enumerate", "reversed", "range")
WALKERS = ("list", "tuple", "dict", "sorted", "sum", "any", "all", "enumerate", "zip", "min", "max")


def parents_of(tree):
    return {child: node for node in ast.walk(tree) for child in ast.iter_child_nodes(node)}


def bound_names(tree):
    for node in ast.walk(tree):
        if isinstance(node, ast.Name) and isinstance(node.ctx, ast.Store):
            yield node.id
        elif isinstance(node, ast.arg):
            yield node.arg
        elif isinstance(node, (ast.FunctionDef, ast.ClassDef)):
            yield node.name


class LanguageTest(unittest.TestCase):
    def each(self):
        for path in FILES:
            with self.subTest(file=path.name):
                text = path.read_text(encoding="utf-8")
                yield path, text, ast.parse(text)

    def test_files(self):
        self.assertIn(PACKAGE / "__init__.py", FILES)
        for path in PACKAGE.rglob("*"):
            if "__pycache__" not in path.parts:
                self.assertRegex(path.name, r"^(__init__|[a-z][a-z0-9_]*)\.py$")
                self.assertNotIn(path.stem, dir(builtins))

    def test_size_and_signs(self):
        for path, text, tree in self.each():
            lines = text.split("\n")
            self.assertLessEqual(len(lines), 400)
            for number, line in enumerate(lines, 1):
                self.assertLessEqual(len(line), 120, number)
                self.assertRegex(line, r"^[ -~]*$", number)
            for node in ast.walk(tree):
                if isinstance(node, ast.FunctionDef):
                    self.assertLessEqual(node.end_lineno - node.lineno + 1, 40, node.name)

    def test_words(self):
        for path, text, tree in self.each():
            self.assertIsNone(WORDS.search(text))

    def test_only_listed_forms(self):
        for path, text, tree in self.each():
            for node in ast.walk(tree):
                if isinstance(node, ast.stmt):
                    self.assertIsInstance(node, STATEMENTS, node.lineno)
                if isinstance(node, ast.expr):
                    self.assertIsInstance(node, EXPRESSIONS, node.lineno)
                if isinstance(node, ast.Assign):
                    self.assertEqual(len(node.targets), 1, node.lineno)
                if isinstance(node, ast.Constant):
                    self.assertIn(node.value.__class__, (int, str, bool, None.__class__), node.lineno)
                if isinstance(node, (ast.BinOp, ast.AugAssign)):
                    self.assertNotIsInstance(node.op, (ast.Div, ast.MatMult), node.lineno)
                if isinstance(node, (ast.For, ast.While)):
                    self.assertEqual(node.orelse, [], node.lineno)
                if isinstance(node, ast.ListComp):
                    self.assertEqual(len(node.generators), 1, node.lineno)
                    self.assertLessEqual(len(node.generators[0].ifs), 1, node.lineno)

    def test_powers_have_a_written_exponent(self):
        for path, text, tree in self.each():
            for node in ast.walk(tree):
                if isinstance(node, ast.BinOp) and isinstance(node.op, ast.Pow):
                    self.assertIsInstance(node.right, ast.Constant, node.lineno)
                    self.assertIn(node.right.value, range(65), node.lineno)

    def test_texts_stand_alone_at_the_top_only(self):
        for path, text, tree in self.each():
            for node in ast.walk(tree):
                if isinstance(node, ast.Expr) and node is not tree.body[0]:
                    self.assertIsInstance(node.value, ast.Call, node.lineno)

    def test_imports_are_the_packages_own_and_not_round_about(self):
        drawn = {}
        for path, text, tree in self.each():
            drawn[path.stem] = set()
            for node in ast.walk(tree):
                if isinstance(node, ast.ImportFrom):
                    self.assertEqual(node.level, 0)
                    self.assertRegex(node.module, r"^feelbench\.[a-z_]+$")
                    self.assertIn(node, tree.body)
                    drawn[path.stem].add(node.module.split(".")[1])
                    for name in node.names:
                        self.assertNotEqual(name.name, "*")
                        self.assertIn(name.name, text.split("\n\n", 2)[2], "drawn but not used")
        while drawn:
            ready = [name for name in drawn if not drawn[name] & set(drawn)]
            self.assertTrue(ready, drawn)
            for name in ready:
                del drawn[name]

    def test_names(self):
        for path, text, tree in self.each():
            classes = {node.name for node in ast.walk(tree) if isinstance(node, ast.ClassDef)}
            imports = {a.name for node in ast.walk(tree) if isinstance(node, ast.ImportFrom) for a in node.names}
            top = [node for node in tree.body if isinstance(node, (ast.FunctionDef, ast.ClassDef, ast.Assign))]
            names = [node.targets[0].id if isinstance(node, ast.Assign) else node.name for node in top]
            self.assertEqual(len(names), len(set(names)))
            for name in bound_names(tree):
                if name != "__init__":
                    self.assertRegex(name, r"^[A-Za-z][A-Za-z0-9_]*$")
                self.assertNotIn(name, dir(builtins))
                self.assertNotIn(name, imports)
                self.assertNotIn(name, UNUSED)
            for node in ast.walk(tree):
                if isinstance(node, ast.arg):
                    self.assertNotIn(node.arg, classes)
                if isinstance(node, ast.Name) and node.id in dir(builtins):
                    self.assertIn(node.id, PYTHONS_OWN, node.lineno)

    def test_methods_and_values(self):
        methods = set()
        values = set()
        called = set()
        for path, text, tree in self.each():
            parents = parents_of(tree)
            for node in ast.walk(tree):
                if isinstance(node, ast.FunctionDef) and isinstance(parents[node], ast.ClassDef):
                    methods.add(node.name)
                if isinstance(node, ast.Attribute):
                    call = parents[node]
                    if isinstance(call, ast.Call) and call.func is node:
                        called.add(node.attr)
                    else:
                        values.add(node.attr)
        self.assertEqual(methods & values, set())
        self.assertEqual(called - methods - METHODS, set())
        taken = {name for kind in OWN_VALUES for name in dir(kind)} - {"__init__"}
        self.assertEqual((methods | values) & taken, set())

    def test_is_stands_beside_none_alone(self):
        for path, text, tree in self.each():
            for node in ast.walk(tree):
                if isinstance(node, ast.Compare) and isinstance(node.ops[0], (ast.Is, ast.IsNot)):
                    self.assertIsInstance(node.comparators[0], ast.Constant, node.lineno)

    def test_walked_on_the_spot(self):
        for path, text, tree in self.each():
            parents = parents_of(tree)
            for node in ast.walk(tree):
                if isinstance(node, ast.Call) and isinstance(node.func, ast.Name) and node.func.id in WALKED:
                    above = parents[node]
                    if isinstance(above, ast.Call):
                        self.assertIn(above.func.id, WALKERS, node.lineno)
                        self.assertIs(above.args[0], node, node.lineno)
                    else:
                        self.assertIsInstance(above, (ast.For, ast.comprehension), node.lineno)

    def test_no_stars_decorators_or_annotations(self):
        for path, text, tree in self.each():
            for node in ast.walk(tree):
                if isinstance(node, ast.FunctionDef):
                    self.assertEqual((node.decorator_list, node.returns), ([], None), node.name)
                    given = node.args
                    self.assertEqual((given.vararg, given.kwarg, given.kwonlyargs, given.posonlyargs), (None, None, [], []))
                if isinstance(node, ast.ClassDef):
                    self.assertEqual((node.decorator_list, node.keywords), ([], []), node.name)
                    self.assertLessEqual(len(node.bases), 1)
                    for part in node.body:
                        self.assertIsInstance(part, ast.FunctionDef, node.name)

    def test_tops_of_files_hold_plain_values(self):
        for path, text, tree in self.each():
            for node in tree.body[1:]:
                self.assertIsInstance(node, (ast.ImportFrom, ast.FunctionDef, ast.ClassDef, ast.Assign), node.lineno)
                if isinstance(node, ast.Assign):
                    inner = [x for x in ast.walk(node.value) if isinstance(x, (ast.List, ast.Dict)) and x is not node.value]
                    self.assertEqual(inner, [], node.lineno)
                    for part in ast.walk(node.value):
                        self.assertNotIsInstance(part, (ast.Call, ast.BinOp), node.lineno)


if __name__ == "__main__":
    unittest.main()
