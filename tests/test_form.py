"""The package's files keep to the plain part of Python that they are written in, as far as a walk over them shows."""

import ast
import pathlib
import re
import unittest

FOLDER = pathlib.Path(__file__).resolve().parent.parent / "appointments"
FILES = sorted(FOLDER.glob("*.py"))

ALLOWED = (
    ast.Module, ast.ImportFrom, ast.alias, ast.FunctionDef, ast.ClassDef, ast.arguments, ast.arg, ast.Lambda,
    ast.Assign, ast.AugAssign, ast.If, ast.While, ast.For, ast.Return, ast.Break, ast.Continue, ast.Pass, ast.Raise,
    ast.Expr, ast.Constant, ast.Name, ast.Attribute, ast.Subscript, ast.Slice, ast.List, ast.Tuple, ast.Dict,
    ast.BinOp, ast.BoolOp, ast.UnaryOp, ast.Compare, ast.IfExp, ast.Call, ast.keyword, ast.ListComp,
    ast.comprehension, ast.JoinedStr, ast.FormattedValue, ast.expr_context, ast.operator, ast.boolop, ast.unaryop,
    ast.cmpop,
)
OWN_NAMES = set(
    "len range enumerate zip min max sum abs sorted reversed int str bool list tuple dict set frozenset isinstance "
    "ord repr any all divmod Exception ValueError KeyError".split())
METHODS = set(
    "append clear copy count endswith extend find get index insert items join keys pop remove replace reverse "
    "setdefault update values".split())
WORDS = re.compile(
    r"\b(type|typing|typing_extensions|enum|Enum|IntEnum|StrEnum|Flag|IntFlag|Generic|Protocol|ABC|ABCMeta|"
    r"namedtuple|NamedTuple|TypedDict|TYPE_CHECKING|abstractmethod)\b|dataclass|overload|contextmanager")


def nodes(path, *kinds):
    return [node for node in ast.walk(ast.parse(path.read_text("utf-8"))) if isinstance(node, kinds)]


class Form(unittest.TestCase):
    def test_only_plain_files(self):
        found = [path for path in FOLDER.iterdir() if path.name != "__pycache__"]
        self.assertEqual(sorted(found), FILES)
        self.assertIn("__init__.py", [path.name for path in FILES])

    def test_signs_and_sizes(self):
        for path in FILES:
            text = path.read_text("utf-8")
            self.assertTrue(all(sign == "\n" or " " <= sign <= "~" for sign in text))
            self.assertLessEqual(len(text.split("\n")), 400)
            self.assertLessEqual(max(len(row) for row in text.split("\n")), 120)
            self.assertIsNone(WORDS.search(text))
            for node in nodes(path, ast.FunctionDef):
                self.assertLessEqual(node.end_lineno - node.lineno + 1, 40, node.name)

    def test_only_plain_statements_and_expressions(self):
        for path in FILES:
            for node in nodes(path, ast.AST):
                self.assertIsInstance(node, ALLOWED)
                self.assertNotIsInstance(node, (ast.Div, ast.MatMult))
            for node in nodes(path, ast.Constant):
                self.assertIn(type(node.value), (int, str, bool, type(None)))
            for node in nodes(path, ast.Assign):
                self.assertEqual([type(target) in (ast.Name, ast.Attribute, ast.Subscript)
                                  for target in node.targets], [True])

    def test_only_own_imports(self):
        for path in FILES:
            for node in nodes(path, ast.ImportFrom):
                self.assertEqual((node.level, node.module.split(".")[0]), (0, "appointments"))

    def test_only_allowed_names_are_called(self):
        own = {node.name for path in FILES for node in nodes(path, ast.FunctionDef, ast.ClassDef)}
        for path in FILES:
            for node in nodes(path, ast.Call):
                if isinstance(node.func, ast.Name):
                    self.assertIn(node.func.id, OWN_NAMES | own)
                if isinstance(node.func, ast.Attribute):
                    self.assertIn(node.func.attr, METHODS | own)
            for node in nodes(path, ast.Name):
                self.assertFalse(node.id.startswith("_"), node.id)


if __name__ == "__main__":
    unittest.main()
