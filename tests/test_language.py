"""The package's files keep to the part of Python that it is written in, as far as that shows in their form."""

import ast
import builtins
import pathlib
import re
import unittest

PACKAGE = pathlib.Path(__file__).resolve().parent.parent / "readingways"

NODES = set("""Module Expr Constant ImportFrom alias FunctionDef ClassDef arguments arg Lambda Assign AugAssign If While
    For Return Break Continue Pass Raise Try ExceptHandler Call keyword Attribute Subscript Slice Name Load Store List
    Tuple Dict Set ListComp comprehension BinOp UnaryOp BoolOp Compare IfExp JoinedStr FormattedValue Add Sub Mult
    FloorDiv Mod Pow BitAnd BitOr BitXor LShift RShift Invert Not USub And Or Eq NotEq Lt LtE Gt GtE In NotIn Is
    IsNot""".split())
OWN_NAMES = set("""len range enumerate zip min max sum abs sorted reversed int str bool list tuple dict set frozenset
    isinstance ord repr any all divmod Exception ValueError TypeError KeyError IndexError LookupError
    ZeroDivisionError ArithmeticError OverflowError RuntimeError NotImplementedError AttributeError
    StopIteration""".split())
OWN_METHODS = set("""append clear copy count endswith extend find get index insert isalnum isalpha isdigit islower
    isspace isupper items join keys ljust lower lstrip partition pop remove replace reverse rfind rjust rpartition rsplit
    rstrip setdefault split splitlines startswith strip update upper values zfill bit_length""".split())
UNUSED_WORDS = re.compile(r"\b(type|typing|typing_extensions|enum|Enum|IntEnum|StrEnum|Flag|IntFlag|Generic|Protocol|ABC"
                          r"|ABCMeta|namedtuple|NamedTuple|TypedDict|TYPE_CHECKING|abstractmethod)\b"
                          r"|dataclass|overload|contextmanager")


def sources():
    return {path: path.read_text("utf-8") for path in sorted(PACKAGE.rglob("*.py"))}


def trees():
    return {path: ast.parse(source) for path, source in sources().items()}


def nodes(kind):
    """Each node of this kind, with the file's name."""
    return [(path.name, node) for path, tree in trees().items() for node in ast.walk(tree) if isinstance(node, kind)]


class LanguageTest(unittest.TestCase):

    def test_nothing_else_lies_in_the_package(self):
        for path in PACKAGE.rglob("*"):
            if "__pycache__" not in path.parts:
                self.assertRegex(path.name, r"^([a-z][a-z0-9_]*|__init__)\.py$")

    def test_signs_and_sizes(self):
        for path, source in sources().items():
            self.assertRegex(source, r"\A[ -~\n]*\Z", path.name)
            self.assertIsNone(UNUSED_WORDS.search(source), path.name)
            self.assertLessEqual(len(source.splitlines()), 400, path.name)
            self.assertLessEqual(max(map(len, source.splitlines())), 120, path.name)
        for name, node in nodes(ast.FunctionDef):
            self.assertLessEqual(node.end_lineno - node.lineno + 1, 40, (name, node.name))

    def test_forms(self):
        for name, node in nodes(ast.AST):
            self.assertIn(type(node).__name__, NODES, (name, getattr(node, "lineno", 0)))
        for name, node in nodes(ast.Constant):
            self.assertIn(type(node.value), (int, str, bool, type(None)), (name, node.lineno))
        for name, node in nodes((ast.For, ast.While)):
            self.assertEqual(node.orelse, [], (name, node.lineno))
        for name, node in nodes(ast.Try):
            self.assertEqual(node.finalbody, [], (name, node.lineno))
        for name, node in nodes(ast.Assign):
            self.assertEqual(len(node.targets), 1, (name, node.lineno))

    def test_functions_and_classes(self):
        for name, node in nodes(ast.FunctionDef):
            plain = (node.args.vararg, node.args.kwarg, node.args.kwonlyargs, node.args.posonlyargs)
            self.assertEqual((plain, node.decorator_list), ((None, None, [], []), []), (name, node.name))
        for name, node in nodes(ast.ClassDef):
            self.assertEqual((len(node.bases) < 2, node.keywords, node.decorator_list), (True, [], []), (name, node.name))
            for part in node.body:
                self.assertIsInstance(part, (ast.FunctionDef, ast.Expr), (name, node.name))

    def test_imports(self):
        for path, tree in trees().items():
            for node in ast.walk(tree):
                if isinstance(node, ast.ImportFrom):
                    self.assertIn(node, tree.body)
                    self.assertRegex(node.module, r"^readingways\.[a-z]+$", path.name)
                    self.assertEqual(node.level, 0)

    def test_names(self):
        for name, node in nodes(ast.Name):
            self.assertRegex(node.id, r"^[A-Za-z]", (name, node.lineno))
            if node.id in dir(builtins):
                self.assertIn(node.id, OWN_NAMES, (name, node.lineno))
                self.assertIsInstance(node.ctx, ast.Load, (name, node.lineno))
        for name, node in nodes(ast.arg):
            self.assertNotIn(node.arg, dir(builtins), (name, node.lineno))

    def test_methods(self):
        own = {node.name for name, node in nodes(ast.FunctionDef)}
        called = [(name, node.func) for name, node in nodes(ast.Call) if isinstance(node.func, ast.Attribute)]
        for name, node in called:
            self.assertIn(node.attr, OWN_METHODS | own, (name, node.lineno))

    def test_lists_of_a_files_top_hold_none(self):
        for path, tree in trees().items():
            for node in tree.body:
                if isinstance(node, ast.Assign):
                    within = [part for part in ast.walk(node.value) if isinstance(part, (ast.List, ast.Dict))]
                    self.assertLessEqual(len(within), 1, (path.name, node.lineno))


if __name__ == "__main__":
    unittest.main()
