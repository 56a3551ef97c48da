"""The package's files keep to the small part of Python that is allowed."""

import ast
import builtins
import re
import unittest
from pathlib import Path

PACKAGE = Path(__file__).resolve().parent.parent / "enginetimes"

NODES = """Module ImportFrom alias FunctionDef ClassDef arguments arg Return Assign AugAssign For While If Raise Try
    ExceptHandler Expr Pass Break Continue BoolOp BinOp UnaryOp IfExp Dict List Tuple Set ListComp comprehension
    Compare Call JoinedStr FormattedValue Constant Attribute Subscript Slice Name Lambda Load Store
    And Or Add Sub Mult FloorDiv Mod Pow LShift RShift BitOr BitXor BitAnd Invert Not UAdd USub
    Eq NotEq Lt LtE Gt GtE Is IsNot In NotIn""".split()

OWN_NAMES = """len range enumerate zip min max sum abs sorted reversed int str bool list tuple dict set frozenset isinstance
    ord repr any all divmod Exception ValueError TypeError KeyError IndexError LookupError ZeroDivisionError
    ArithmeticError OverflowError RuntimeError NotImplementedError AttributeError StopIteration""".split()

WORDS = """type typing typing_extensions enum Enum IntEnum StrEnum Flag IntFlag Generic Protocol ABC ABCMeta namedtuple
    NamedTuple TypedDict TYPE_CHECKING abstractmethod""".split()


def sources():
    return sorted(PACKAGE.glob("*.py"))


def trees():
    return [(path.name, ast.parse(path.read_text())) for path in sources()]


def nodes(*kinds):
    return [(name, node) for name, tree in trees() for node in ast.walk(tree) if isinstance(node, kinds)]


class Language(unittest.TestCase):
    def test_files(self):
        names = [path.name for path in PACKAGE.iterdir() if path.name != "__pycache__"]
        self.assertIn("__init__.py", names)
        for name in names:
            self.assertRegex(name, r"^(__init__|[a-z][a-z0-9_]*)\.py$")

    def test_size_and_signs(self):
        for path in sources():
            lines = path.read_text().split("\n")
            self.assertLessEqual(len(lines), 400)
            for line in lines:
                self.assertRegex(line, r"^[ -~]{0,120}$")

    def test_words(self):
        for path in sources():
            found = set(re.findall(r"\w+", path.read_text()))
            self.assertEqual(found & set(WORDS), set(), path.name)

    def test_statements_and_expressions(self):
        for name, node in nodes(ast.AST):
            self.assertIn(node.__class__.__name__, NODES, name)

    def test_calls_alone_stand_by_themselves(self):
        for name, tree in trees():
            self.assertIsNotNone(ast.get_docstring(tree), name)
            for node in ast.walk(tree):
                if isinstance(node, ast.Expr) and node is not tree.body[0]:
                    self.assertIsInstance(node.value, ast.Call, name)

    def test_values(self):
        for name, node in nodes(ast.Constant):
            self.assertIn(node.value.__class__, (int, str, bool, None.__class__), name)

    def test_functions(self):
        for name, node in nodes(ast.FunctionDef):
            self.assertLessEqual(node.end_lineno - node.lineno + 1, 40, node.name)
            self.assertEqual(node.decorator_list, [])
            self.assertIsNone(node.args.vararg or node.args.kwarg)
            self.assertEqual(node.args.kwonlyargs + node.args.posonlyargs, [])

    def test_one_target(self):
        for name, node in nodes(ast.Assign):
            self.assertEqual(len(node.targets), 1, name)

    def test_imports(self):
        for name, node in nodes(ast.ImportFrom):
            self.assertTrue(node.module.startswith("enginetimes."), name)
            self.assertEqual(node.level, 0)
            self.assertNotIn("*", [each.name for each in node.names])

    def test_names(self):
        for name, node in nodes(ast.Name):
            self.assertFalse(node.id.startswith("_"), node.id)
            if hasattr(builtins, node.id):
                self.assertIn(node.id, OWN_NAMES, name)
                self.assertIsInstance(node.ctx, ast.Load)
        for name, node in nodes(ast.arg):
            self.assertFalse(hasattr(builtins, node.arg), node.arg)

    def test_no_name_is_a_method_and_a_value(self):
        methods = {each.name for name, node in nodes(ast.ClassDef) for each in node.body
                   if isinstance(each, ast.FunctionDef)}
        values = {node.attr for name, node in nodes(ast.Attribute) if isinstance(node.ctx, ast.Store)}
        self.assertEqual(methods & values, set())


if __name__ == "__main__":
    unittest.main()
