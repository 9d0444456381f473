"""The rules of LANGUAGE.md that can be read off the package's files."""

import ast
import builtins
import pathlib
import re
import unittest

PACKAGE = pathlib.Path(__file__).resolve().parent.parent / "shelfmarks"
FILES = sorted(path for path in PACKAGE.rglob("*") if path.is_file() and "__pycache__" not in path.parts)

NODES = set("""
Module ImportFrom alias FunctionDef arguments arg ClassDef Assign AugAssign If While For Return Break Continue Pass
Raise Try ExceptHandler Expr Constant List Tuple Dict Set BinOp UnaryOp BoolOp Compare IfExp Call keyword Attribute
Subscript Slice ListComp comprehension JoinedStr FormattedValue Lambda Name Load Store
Add Sub Mult FloorDiv Mod Pow BitAnd BitOr BitXor LShift RShift Invert USub Not And Or
Eq NotEq Lt LtE Gt GtE In NotIn Is IsNot
""".split())
OWN_NAMES = set("""
len range enumerate zip min max sum abs sorted reversed int str bool list tuple dict set frozenset isinstance ord repr
any all divmod Exception ValueError TypeError KeyError IndexError LookupError ZeroDivisionError ArithmeticError
OverflowError RuntimeError NotImplementedError AttributeError StopIteration
""".split())
WORDS = re.compile(
    r"\b(type|typing|typing_extensions|enum|Enum|IntEnum|StrEnum|Flag|IntFlag|Generic|Protocol|ABC|ABCMeta|namedtuple"
    r"|NamedTuple|TypedDict|TYPE_CHECKING|abstractmethod)\b|dataclass|overload|contextmanager"
)


def bound_names(tree):
    for node in ast.walk(tree):
        if isinstance(node, (ast.FunctionDef, ast.ClassDef)):
            yield node.name
        elif isinstance(node, ast.arg):
            yield node.arg
        elif isinstance(node, ast.Name) and isinstance(node.ctx, ast.Store):
            yield node.id


class Language(unittest.TestCase):
    def setUp(self):
        self.trees = {path: ast.parse(path.read_text()) for path in FILES}

    def nodes(self, *kinds):
        return [(path.name, node) for path, tree in self.trees.items() for node in ast.walk(tree)
                if isinstance(node, kinds)]

    def test_files(self):
        self.assertIn("store.py", [path.name for path in FILES])
        for path in FILES:
            self.assertRegex(path.name, r"^[a-z0-9_]+\.py$")

    def test_sizes_and_signs(self):
        for path in FILES:
            text = path.read_text()
            self.assertRegex(text, r"\A[ -~\n]*\Z", path.name)
            self.assertLessEqual(len(text.splitlines()), 400, path.name)
            self.assertLessEqual(max([len(line) for line in text.splitlines()] + [0]), 120, path.name)
            self.assertIsNone(WORDS.search(text), path.name)
        for name, node in self.nodes(ast.FunctionDef):
            self.assertLessEqual(node.end_lineno - node.lineno + 1, 40, (name, node.name))

    def test_kinds_of_statements_and_values(self):
        for name, node in self.nodes(ast.AST):
            self.assertIn(node.__class__.__name__, NODES, (name, getattr(node, "lineno", None)))
        for name, node in self.nodes(ast.Constant):
            self.assertIn(node.value.__class__, (int, str, bool, None.__class__), (name, node.lineno))
        for name, node in self.nodes(ast.For, ast.While):
            self.assertEqual(node.orelse, [], (name, node.lineno))
        for name, node in self.nodes(ast.FunctionDef, ast.ClassDef):
            self.assertEqual(node.decorator_list, [], (name, node.name))

    def test_imports(self):
        for name, node in self.nodes(ast.ImportFrom):
            self.assertEqual(node.level, 0, (name, node.lineno))
            self.assertTrue(node.module.startswith("shelfmarks."), (name, node.lineno))

    def test_imports_come_from_the_file_that_defines_the_name(self):
        at_top = {"shelfmarks." + path.stem: [node.name for node in tree.body if hasattr(node, "name")]
                  + [node.targets[0].id for node in tree.body if isinstance(node, ast.Assign)]
                  for path, tree in self.trees.items()}
        for name, node in self.nodes(ast.ImportFrom):
            for drawn in node.names:
                self.assertIn(drawn.name, at_top[node.module], (name, node.lineno))
        for module, names in at_top.items():
            self.assertEqual(len(names), len(set(names)), module)

    def test_no_two_files_draw_from_one_another(self):
        left = {"shelfmarks." + path.stem: {node.module for node in tree.body if isinstance(node, ast.ImportFrom)}
                for path, tree in self.trees.items()}
        while left:
            free = [module for module, drawn in left.items() if not drawn & set(left)]
            self.assertNotEqual(free, [], sorted(left))
            left = {module: drawn for module, drawn in left.items() if module not in free}

    def test_no_local_is_called_like_an_import_or_a_class(self):
        for path, tree in self.trees.items():
            taken = [drawn.name for node in tree.body if isinstance(node, ast.ImportFrom) for drawn in node.names]
            taken += [node.name for node in tree.body if isinstance(node, ast.ClassDef)]
            for function in [node for node in ast.walk(tree) if isinstance(node, ast.FunctionDef)]:
                local = set(bound_names(function)) - {function.name}
                self.assertEqual(sorted(local & set(taken)), [], (path.name, function.name))

    def test_names(self):
        for path, tree in self.trees.items():
            for bound in bound_names(tree):
                self.assertRegex(bound, r"^([A-Za-z][A-Za-z0-9_]*|__init__)$", path.name)
                self.assertNotIn(bound, dir(builtins), path.name)
        for name, node in self.nodes(ast.Name):
            if node.id in dir(builtins):
                self.assertIn(node.id, OWN_NAMES, (name, node.lineno))


if __name__ == "__main__":
    unittest.main()
