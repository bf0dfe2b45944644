"""The form of the package's files: the rules of the language it keeps to that are quickly seen."""

import ast
import pathlib
import re
import unittest

PACKAGE = pathlib.Path(__file__).resolve().parent.parent / "pathrouter"
FILES = sorted(PACKAGE.rglob("*.py"))

STATEMENTS = (
    ast.FunctionDef, ast.ClassDef, ast.ImportFrom, ast.Assign, ast.If, ast.While, ast.For, ast.Return, ast.Break,
    ast.Continue, ast.Pass, ast.Raise, ast.Try, ast.Expr,
)
EXPRESSIONS = (
    ast.BoolOp, ast.BinOp, ast.UnaryOp, ast.Lambda, ast.IfExp, ast.Dict, ast.ListComp, ast.Compare, ast.Call,
    ast.Constant, ast.Attribute, ast.Subscript, ast.Name, ast.List, ast.Tuple, ast.Slice,
)
OWN_NAMES = (
    "len range enumerate zip min max sum abs sorted reversed int str bool list tuple dict set isinstance ord repr "
    "any all divmod KeyError ValueError"
).split()
METHODS = (
    "append clear copy count endswith extend find get index insert items join keys pop remove replace reverse "
    "setdefault split strip update values bit_length"
).split()
WORDS = (
    "type typing typing_extensions enum Enum IntEnum StrEnum Flag IntFlag Generic Protocol ABC ABCMeta namedtuple "
    "NamedTuple TypedDict TYPE_CHECKING abstractmethod"
).split()


def tree_of(file):
    return ast.parse(file.read_text(encoding="ascii"))


def nodes(kind):
    return [(file.name, node) for file in FILES for node in ast.walk(tree_of(file)) if isinstance(node, kind)]


class Form(unittest.TestCase):
    def test_files(self):
        self.assertIn(PACKAGE / "__init__.py", FILES)
        others = [path for path in PACKAGE.rglob("*") if path not in FILES and "__pycache__" not in path.parts]
        self.assertEqual(others, [])

    def test_signs_and_sizes(self):
        for file in FILES:
            rows = file.read_bytes().split(b"\n")
            self.assertLessEqual(len(rows), 400, file)
            for row in rows:
                self.assertRegex(row, rb"\A[ -~]{0,120}\Z", file)
        for name, node in nodes(ast.FunctionDef):
            self.assertLessEqual(node.end_lineno - node.lineno + 1, 40, (name, node.name))

    def test_words(self):
        for file in FILES:
            text = file.read_text()
            self.assertEqual(sorted(set(re.findall(r"\w+", text)) & set(WORDS)), [], file)
            self.assertIsNone(re.search("dataclass|overload|contextmanager", text), file)

    def test_imports(self):
        for name, node in nodes((ast.Import, ast.ImportFrom)):
            self.assertIsInstance(node, ast.ImportFrom, name)
            self.assertEqual(node.level, 0, name)
            self.assertTrue(node.module.startswith("pathrouter."), name)
            defined = [top.name for top in tree_of(PACKAGE / (node.module.split(".")[1] + ".py")).body
                       if isinstance(top, (ast.FunctionDef, ast.ClassDef))]
            for alias in node.names:
                self.assertIn(alias.name, defined, name)

    def test_statements_and_expressions(self):
        for name, node in nodes(ast.stmt):
            self.assertIsInstance(node, STATEMENTS, (name, node.lineno))
        for name, node in nodes(ast.expr):
            self.assertIsInstance(node, EXPRESSIONS, (name, node.lineno))
        for name, node in nodes(ast.Assign):
            self.assertEqual(len(node.targets), 1, (name, node.lineno))
            self.assertNotIsInstance(node.targets[0], (ast.Tuple, ast.List), (name, node.lineno))
        for name, node in nodes((ast.While, ast.For)):
            self.assertEqual(node.orelse, [], (name, node.lineno))

    def test_functions(self):
        for name, node in nodes(ast.FunctionDef):
            given = node.args
            self.assertEqual((given.vararg, given.kwarg, given.kwonlyargs, given.posonlyargs), (None, None, [], []))
            self.assertEqual(node.decorator_list, [], (name, node.name))

    def test_is_only_beside_none_true_and_false(self):
        for name, node in nodes(ast.Compare):
            for operator, value in zip(node.ops, node.comparators):
                if isinstance(operator, (ast.Is, ast.IsNot)):
                    self.assertIsInstance(value, ast.Constant, (name, node.lineno))
                    self.assertIn(value.value, (None, True, False), (name, node.lineno))

    def test_names_of_pythons_own(self):
        import builtins
        for name, node in nodes(ast.Name):
            if hasattr(builtins, node.id):
                self.assertIn(node.id, OWN_NAMES, (name, node.lineno))
                self.assertIsInstance(node.ctx, ast.Load, (name, node.lineno))
        for name, node in nodes(ast.arg):
            self.assertFalse(hasattr(builtins, node.arg), (name, node.lineno))

    def test_names_are_plain(self):
        for name, node in nodes((ast.Name, ast.arg, ast.Attribute)):
            plain = getattr(node, "id", None) or getattr(node, "arg", None) or node.attr
            self.assertRegex(plain, r"\A[A-Za-z][A-Za-z0-9_]*\Z", (name, node.lineno))

    def test_methods(self):
        own = {node.name for name, node in nodes(ast.FunctionDef)}
        for name, node in nodes(ast.Call):
            if isinstance(node.func, ast.Attribute):
                self.assertTrue(node.func.attr in own or node.func.attr in METHODS, (name, node.lineno))

    def test_no_name_is_a_method_and_a_value(self):
        methods = {child.name for name, node in nodes(ast.ClassDef) for child in node.body
                   if isinstance(child, ast.FunctionDef)}
        values = {node.attr for name, node in nodes(ast.Attribute) if isinstance(node.ctx, ast.Store)}
        self.assertEqual(methods & values, set())


if __name__ == "__main__":
    unittest.main()
