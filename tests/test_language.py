"""What of ../shared/LANGUAGE.md can be seen by looking at the package's files."""

import ast
import pathlib
import re
import unittest

FOLDER = pathlib.Path(__file__).resolve().parent.parent / "fewqubits"

PYTHONS_OWN = set(
    "len range enumerate zip min max sum abs sorted reversed int str bool list tuple dict set frozenset isinstance "
    "ord repr any all divmod Exception ValueError TypeError KeyError IndexError LookupError ZeroDivisionError "
    "ArithmeticError OverflowError RuntimeError NotImplementedError AttributeError StopIteration".split()
)
METHODS = set(
    "append clear copy count endswith extend find get index insert isalnum isalpha isdigit islower isspace isupper "
    "items join keys ljust lower lstrip partition pop remove replace reverse rfind rjust rpartition rsplit rstrip "
    "setdefault split splitlines startswith strip update upper values zfill bit_length".split()
)
SPECIAL = {"__init__", "__eq__", "__repr__", "__str__", "__len__"}
WORDS = re.compile(
    r"\b(type|typing|typing_extensions|enum|Enum|IntEnum|StrEnum|Flag|IntFlag|Generic|Protocol|ABC|ABCMeta|namedtuple"
    r"|NamedTuple|TypedDict|TYPE_CHECKING|abstractmethod)\b|dataclass|overload|contextmanager"
)
NODES = (
    ast.Module, ast.FunctionDef, ast.ClassDef, ast.arguments, ast.arg, ast.Assign, ast.AugAssign, ast.If, ast.While,
    ast.For, ast.Return, ast.Break, ast.Continue, ast.Pass, ast.Raise, ast.Try, ast.ExceptHandler, ast.Expr,
    ast.ImportFrom, ast.alias, ast.Constant, ast.List, ast.Tuple, ast.Dict, ast.BinOp, ast.UnaryOp, ast.BoolOp,
    ast.Compare, ast.IfExp, ast.Call, ast.keyword, ast.Attribute, ast.Subscript, ast.Slice, ast.ListComp,
    ast.comprehension, ast.JoinedStr, ast.FormattedValue, ast.Name, ast.Lambda,
    ast.expr_context, ast.operator, ast.unaryop, ast.boolop, ast.cmpop,
)


class LanguageTest(unittest.TestCase):
    def setUp(self):
        self.files = sorted(path for path in FOLDER.iterdir() if path.name != "__pycache__")
        self.trees = {path: ast.parse(path.read_text("ascii")) for path in self.files}

    def nodes(self, *kinds):
        for path, tree in self.trees.items():
            for node in ast.walk(tree):
                if isinstance(node, kinds):
                    yield f"{path.name}:{getattr(node, 'lineno', '')}", node

    def test_files(self):
        for path in self.files:
            self.assertRegex(path.name, r"^[a-z][a-z0-9_]*\.py$|^__init__\.py$")
            lines = path.read_text("ascii").split("\n")
            self.assertLessEqual(len(lines), 400)
            for line in lines:
                self.assertRegex(line, r"^[ -~]{0,120}$")
                self.assertNotRegex(line, WORDS)

    def test_only_these_forms(self):
        for where, node in self.nodes(ast.AST):
            self.assertIsInstance(node, NODES, where)
            self.assertNotIsInstance(node, (ast.Div, ast.MatMult), where)

    def test_imports(self):
        for where, node in self.nodes(ast.ImportFrom):
            self.assertEqual(node.level, 0, where)
            self.assertTrue(node.module.startswith("fewqubits."), where)
            for name in node.names:
                self.assertNotEqual(name.name, "*", where)

    def test_functions(self):
        for where, node in self.nodes(ast.FunctionDef):
            self.assertLessEqual(node.end_lineno - node.lineno + 1, 40, where)
            self.assertEqual(node.decorator_list, [], where)
            self.assertIsNone(node.args.vararg or node.args.kwarg, where)
            self.assertEqual(node.args.kwonlyargs, [], where)
            if node.name not in SPECIAL:
                self.assertFalse(node.name.startswith("_"), where)

    def test_names(self):
        made = set()
        for where, node in self.nodes(ast.FunctionDef, ast.ClassDef):
            made.add(node.name)
        for where, node in self.nodes(ast.arg):
            made.add(node.arg)
        for where, node in self.nodes(ast.alias):
            made.add(node.name)
        for where, node in self.nodes(ast.Name):
            if isinstance(node.ctx, ast.Store):
                made.add(node.id)
        self.assertEqual(made & PYTHONS_OWN, set())
        for where, node in self.nodes(ast.Name):
            self.assertIn(node.id, made | PYTHONS_OWN, where)
            self.assertFalse(node.id.startswith("_"), where)

    def test_attributes(self):
        own = set()
        for where, node in self.nodes(ast.FunctionDef):
            own.add(node.name)
        for where, node in self.nodes(ast.Attribute):
            if isinstance(node.ctx, ast.Store):
                own.add(node.attr)
        for where, node in self.nodes(ast.Attribute):
            self.assertIn(node.attr, own | METHODS, where)

    def test_values(self):
        for where, node in self.nodes(ast.Constant):
            self.assertIsInstance(node.value, (int, str, bool, None.__class__), where)
        for where, node in self.nodes(ast.Assign):
            self.assertEqual(len(node.targets), 1, where)
        for where, node in self.nodes(ast.ListComp):
            self.assertEqual(len(node.generators), 1, where)
            self.assertLessEqual(len(node.generators[0].ifs), 1, where)
        for where, node in self.nodes(ast.BinOp):
            if isinstance(node.op, ast.Pow):
                self.assertIsInstance(node.right, ast.Constant, where)


if __name__ == "__main__":
    unittest.main()
