"""The form of the package's own files, as far as it can be read off simply."""

import ast
import builtins
import pathlib
import re
import unittest

PACKAGE = pathlib.Path(__file__).resolve().parent.parent / "doorcards"

STATEMENTS = (
    ast.Module, ast.ImportFrom, ast.FunctionDef, ast.ClassDef, ast.Assign, ast.AugAssign, ast.If, ast.While, ast.For,
    ast.Return, ast.Break, ast.Continue, ast.Pass, ast.Raise, ast.Try, ast.Expr,
)
OWN_NAMES = set(
    "len range enumerate zip min max sum abs sorted reversed int str bool list tuple dict set frozenset isinstance "
    "ord repr any all divmod Exception ValueError TypeError KeyError IndexError LookupError ZeroDivisionError "
    "ArithmeticError OverflowError RuntimeError NotImplementedError AttributeError StopIteration".split()
)
WORDS = (
    r"\b(type|typing|typing_extensions|enum|Enum|IntEnum|StrEnum|Flag|IntFlag|Generic|Protocol|ABC|ABCMeta|namedtuple"
    r"|NamedTuple|TypedDict|TYPE_CHECKING|abstractmethod)\b|dataclass|overload|contextmanager"
)

EXPRESSIONS = (
    ast.BinOp, ast.UnaryOp, ast.BoolOp, ast.Compare, ast.IfExp, ast.Call, ast.Attribute, ast.Subscript, ast.Slice,
    ast.ListComp, ast.Name, ast.Constant, ast.List, ast.Tuple, ast.Dict, ast.JoinedStr, ast.FormattedValue, ast.Lambda,
)
NAMES_NOT_USED = set(
    "register mro elements open input version_info with_traceback add_note attrgetter breakpoint builtins compile "
    "copyright credits delattr dir eval exec exit gc getattr globals hasattr help id importlib license locals "
    "methodcaller os quit setattr super type vars sys".split()
)
METHODS = set(
    "append clear copy count endswith extend find get index insert isalnum isalpha isdigit islower isspace isupper "
    "items join keys ljust lower lstrip partition pop remove replace reverse rfind rjust rpartition rsplit rstrip "
    "setdefault split splitlines startswith strip update upper values zfill bit_length".split()
)
OF_PYTHONS_VALUES = {one for kind in (str, int, list, dict, set, bytes) for one in dir(kind)}
WALKED_AT_ONCE = ("zip", "enumerate", "reversed", "range")


def is_plain(node):
    """A plain value of a file's top: a number, perhaps with its sign, a text, or a row of such."""
    if isinstance(node, (ast.Tuple, ast.List)):
        return all(is_plain(one) for one in node.elts)
    if isinstance(node, ast.UnaryOp):
        return isinstance(node.op, ast.USub) and is_plain(node.operand)
    return isinstance(node, ast.Constant)


def bound_at_top(tree):
    names = []
    for node in tree.body:
        if isinstance(node, (ast.FunctionDef, ast.ClassDef)):
            names.append(node.name)
        elif isinstance(node, ast.Assign):
            names.append(node.targets[0].id)
        elif isinstance(node, ast.ImportFrom):
            names.extend(one.name for one in node.names)
    return names


class FormTest(unittest.TestCase):
    def setUp(self):
        self.files = sorted(path for path in PACKAGE.rglob("*") if "__pycache__" not in path.parts)
        self.texts = {path.name: path.read_text(encoding="utf-8") for path in self.files}
        self.trees = {name: ast.parse(text) for name, text in self.texts.items()}

    def nodes(self):
        return [(name, node) for name, tree in self.trees.items() for node in ast.walk(tree)]

    def test_only_python_files(self):
        self.assertIn("__init__.py", self.texts)
        self.assertIn("desk.py", self.texts)
        for path in self.files:
            self.assertRegex(path.name, r"^[a-z0-9_]+\.py$")

    def test_sizes_and_signs(self):
        for name, text in self.texts.items():
            self.assertLessEqual(len(text.splitlines()), 400, name)
            self.assertRegex(text, r"\A[ -~\n]*\Z", name)
            for row in text.splitlines():
                self.assertLessEqual(len(row), 120, name)
        for name, node in self.nodes():
            if isinstance(node, ast.FunctionDef):
                self.assertLessEqual(node.end_lineno - node.lineno + 1, 40, node.name)

    def test_words_that_stand_nowhere(self):
        for name, text in self.texts.items():
            self.assertIsNone(re.search(WORDS, text), name)

    def test_statements(self):
        for name, node in self.nodes():
            if isinstance(node, (ast.stmt, ast.mod)):
                self.assertIsInstance(node, STATEMENTS, name)
            if isinstance(node, ast.ImportFrom):
                self.assertRegex(node.module, r"^doorcards\.", name)

    def test_no_float_no_bytes(self):
        for name, node in self.nodes():
            self.assertNotIsInstance(node, ast.Div, name)
            if isinstance(node, ast.Constant):
                self.assertIsInstance(node.value, (int, str, type(None)), name)

    def test_pythons_own_names(self):
        for name, node in self.nodes():
            if isinstance(node, ast.Name) and hasattr(builtins, node.id):
                self.assertIn(node.id, OWN_NAMES, name)
                self.assertIsInstance(node.ctx, ast.Load, name)
            if isinstance(node, ast.arg):
                self.assertFalse(hasattr(builtins, node.arg), name)

    def test_the_top_of_a_file(self):
        for name, tree in self.trees.items():
            self.assertIsNotNone(ast.get_docstring(tree), name)
            for node in tree.body[1:]:
                self.assertIsInstance(node, (ast.ImportFrom, ast.FunctionDef, ast.ClassDef, ast.Assign), name)
                if isinstance(node, ast.Assign):
                    self.assertTrue(is_plain(node.value), f"{name}: row {node.lineno}")
            names = bound_at_top(tree)
            self.assertEqual(len(names), len(set(names)), name)

    def test_imports(self):
        drawn = {}
        for name, node in self.nodes():
            if isinstance(node, ast.ImportFrom):
                self.assertEqual(node.level, 0, name)
                source = node.module.split(".", 1)[1] + ".py"
                defined = [one.name for one in self.trees[source].body if isinstance(one, ast.FunctionDef)]
                defined += [one.targets[0].id for one in self.trees[source].body if isinstance(one, ast.Assign)]
                for one in node.names:
                    self.assertIsNone(one.asname, name)
                    self.assertIn(one.name, defined, name)
                drawn.setdefault(name, set()).add(source)
        self.assertEqual(drawn, {"desk.py": {"card.py"}})

    def test_functions_and_classes(self):
        for name, node in self.nodes():
            if isinstance(node, ast.FunctionDef):
                given = node.args
                self.assertEqual([given.vararg, given.kwarg, given.kwonlyargs, given.posonlyargs, given.defaults],
                                 [None, None, [], [], []], node.name)
                self.assertEqual(node.decorator_list, [], node.name)
                self.assertIsNone(node.returns, node.name)
            if isinstance(node, ast.ClassDef):
                self.assertEqual((node.decorator_list, node.bases, node.keywords), ([], [], []), node.name)
                self.assertEqual([one.name for one in node.body], ["__init__"], node.name)

    def test_expressions(self):
        for name, node in self.nodes():
            if isinstance(node, ast.expr):
                self.assertIsInstance(node, EXPRESSIONS, f"{name}: row {node.lineno}")
            if isinstance(node, ast.ListComp):
                self.assertEqual(len(node.generators), 1, name)
                self.assertLessEqual(len(node.generators[0].ifs), 1, name)
            if isinstance(node, ast.Compare) and any(isinstance(one, (ast.Is, ast.IsNot)) for one in node.ops):
                self.assertIsInstance(node.comparators[0], ast.Constant, name)
            self.assertNotIsInstance(node, ast.Pow, name)
            if isinstance(node, (ast.For, ast.While)):
                self.assertEqual(node.orelse, [], name)
            if isinstance(node, ast.Assign):
                self.assertEqual(len(node.targets), 1, name)
                self.assertNotIsInstance(node.targets[0], (ast.Tuple, ast.List), name)
            if isinstance(node, ast.Call):
                self.assertEqual(node.keywords, [], name)

    def test_names(self):
        for name, tree in self.trees.items():
            taken = {one for node in tree.body if isinstance(node, (ast.ImportFrom, ast.ClassDef))
                     for one in bound_at_top(ast.Module([node], []))}
            for node in ast.walk(tree):
                if isinstance(node, ast.arg):
                    self.assert_plain(node.arg, taken)
                elif isinstance(node, ast.Name) and isinstance(node.ctx, ast.Store):
                    self.assert_plain(node.id, taken)
                elif isinstance(node, ast.Attribute) and isinstance(node.ctx, ast.Store):
                    self.assert_plain(node.attr, OF_PYTHONS_VALUES)
                elif isinstance(node, ast.FunctionDef) and node.name != "__init__":
                    self.assert_plain(node.name, set(dir(builtins)))

    def assert_plain(self, word, taken):
        self.assertRegex(word, r"\A[A-Za-z][A-Za-z0-9_]*\Z")
        self.assertNotIn(word, taken)
        self.assertNotIn(word, NAMES_NOT_USED)

    def test_methods_of_pythons_own_values(self):
        for name, node in self.nodes():
            if isinstance(node, ast.Call) and isinstance(node.func, ast.Attribute):
                self.assertIn(node.func.attr, METHODS, name)

    def test_walked_at_once(self):
        for name, tree in self.trees.items():
            walked = [node.iter for node in ast.walk(tree) if isinstance(node, (ast.For, ast.comprehension))]
            for node in ast.walk(tree):
                if isinstance(node, ast.Call) and isinstance(node.func, ast.Name) and node.func.id in WALKED_AT_ONCE:
                    self.assertIn(node, walked, f"{name}: row {node.lineno}")


if __name__ == "__main__":
    unittest.main()
