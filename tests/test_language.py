"""The package's files keep to the part of Python that it is written in, as far as that shows in their form."""

import ast
import builtins
import pathlib
import re
import unittest

PACKAGE = pathlib.Path(__file__).resolve().parent.parent / "readingways"

NODES = set("""Module Expr Constant ImportFrom alias FunctionDef ClassDef arguments arg Lambda Assign AugAssign If While
    For Return Break Continue Pass Raise Try ExceptHandler Call keyword Attribute Subscript Slice Name Load Store List
    Tuple Dict Set ListComp comprehension BinOp UnaryOp BoolOp Compare IfExp JoinedStr FormattedValue Add Sub Mult
    FloorDiv Mod Pow BitAnd BitOr BitXor LShift RShift Invert Not USub And Or Eq NotEq Lt LtE Gt GtE In NotIn Is
    IsNot""".split())
OWN_NAMES = set("""len range enumerate zip min max sum abs sorted reversed int str bool list tuple dict set frozenset
    isinstance ord repr any all divmod Exception ValueError TypeError KeyError IndexError LookupError
    ZeroDivisionError ArithmeticError OverflowError RuntimeError NotImplementedError AttributeError
    StopIteration""".split())
OWN_METHODS = set("""append clear copy count endswith extend find get index insert isalnum isalpha isdigit islower
    isspace isupper items join keys ljust lower lstrip partition pop remove replace reverse rfind rjust rpartition rsplit
    rstrip setdefault split splitlines startswith strip update upper values zfill bit_length""".split())
WALKED = ("zip", "enumerate", "reversed", "range", "items", "keys", "values")
CHANGING = ("append", "clear", "extend", "insert", "pop", "remove", "reverse", "setdefault", "update")
UNUSED_WORDS = re.compile(r"\b(type|typing|typing_extensions|enum|Enum|IntEnum|StrEnum|Flag|IntFlag|Generic|Protocol|ABC"
                          r"|ABCMeta|namedtuple|NamedTuple|TypedDict|TYPE_CHECKING|abstractmethod)\b"
                          r"|dataclass|overload|contextmanager")


def sources():
    return {path: path.read_text("utf-8") for path in sorted(PACKAGE.rglob("*.py"))}


def trees():
    return {path: ast.parse(source) for path, source in sources().items()}


def nodes(kind):
    """Each node of this kind, with the file's name."""
    return [(path.name, node) for path, tree in trees().items() for node in ast.walk(tree) if isinstance(node, kind)]


def bound_at_top(tree):
    """The names that a file gives a value at its top, imports aside."""
    bound = [node.name for node in tree.body if isinstance(node, (ast.FunctionDef, ast.ClassDef))]
    return bound + [node.targets[0].id for node in tree.body if isinstance(node, ast.Assign)]


def imported(tree):
    return [part.name for node in tree.body if isinstance(node, ast.ImportFrom) for part in node.names]


def is_stored(node):
    return isinstance(getattr(node, "ctx", None), ast.Store)


def called_name(call):
    return call.func.id if isinstance(call.func, ast.Name) else call.func.attr


class LanguageTest(unittest.TestCase):

    def test_nothing_else_lies_in_the_package(self):
        for path in PACKAGE.rglob("*"):
            if "__pycache__" not in path.parts:
                self.assertRegex(path.name, r"^([a-z][a-z0-9_]*|__init__)\.py$")

    def test_signs_and_sizes(self):
        for path, source in sources().items():
            self.assertRegex(source, r"\A[ -~\n]*\Z", path.name)
            self.assertIsNone(UNUSED_WORDS.search(source), path.name)
            self.assertLessEqual(len(source.splitlines()), 400, path.name)
            self.assertLessEqual(max(map(len, source.splitlines())), 120, path.name)
        for name, node in nodes(ast.FunctionDef):
            self.assertLessEqual(node.end_lineno - node.lineno + 1, 40, (name, node.name))

    def test_forms(self):
        for name, node in nodes(ast.AST):
            self.assertIn(type(node).__name__, NODES, (name, getattr(node, "lineno", 0)))
        for name, node in nodes(ast.Constant):
            self.assertIn(type(node.value), (int, str, bool, type(None)), (name, node.lineno))
        for name, node in nodes((ast.For, ast.While)):
            self.assertEqual(node.orelse, [], (name, node.lineno))
        for name, node in nodes(ast.Try):
            self.assertEqual(node.finalbody, [], (name, node.lineno))
        for name, node in nodes(ast.Assign):
            self.assertEqual(len(node.targets), 1, (name, node.lineno))

    def test_functions_and_classes(self):
        for name, node in nodes(ast.FunctionDef):
            plain = (node.args.vararg, node.args.kwarg, node.args.kwonlyargs, node.args.posonlyargs)
            self.assertEqual((plain, node.decorator_list), ((None, None, [], []), []), (name, node.name))
        for name, node in nodes(ast.ClassDef):
            self.assertEqual((len(node.bases) < 2, node.keywords, node.decorator_list), (True, [], []), (name, node.name))
            for part in node.body:
                self.assertIsInstance(part, (ast.FunctionDef, ast.Expr), (name, node.name))

    def test_imports(self):
        for path, tree in trees().items():
            for node in ast.walk(tree):
                if isinstance(node, ast.ImportFrom):
                    self.assertIn(node, tree.body)
                    self.assertRegex(node.module, r"^readingways\.[a-z]+$", path.name)
                    self.assertEqual(node.level, 0)

    def test_names(self):
        for name, node in nodes(ast.Name):
            self.assertRegex(node.id, r"^[A-Za-z]", (name, node.lineno))
            if node.id in dir(builtins):
                self.assertIn(node.id, OWN_NAMES, (name, node.lineno))
                self.assertIsInstance(node.ctx, ast.Load, (name, node.lineno))
        for name, node in nodes(ast.arg):
            self.assertNotIn(node.arg, dir(builtins), (name, node.lineno))

    def test_methods(self):
        own = {node.name for name, node in nodes(ast.FunctionDef)}
        called = [(name, node.func) for name, node in nodes(ast.Call) if isinstance(node.func, ast.Attribute)]
        for name, node in called:
            self.assertIn(node.attr, OWN_METHODS | own, (name, node.lineno))

    def test_lists_of_a_files_top_hold_none(self):
        for path, tree in trees().items():
            for node in tree.body:
                if isinstance(node, ast.Assign):
                    within = [part for part in ast.walk(node.value) if isinstance(part, (ast.List, ast.Dict))]
                    self.assertLessEqual(len(within), 1, (path.name, node.lineno))

    def test_names_are_imported_from_the_file_that_defines_them(self):
        defined = {f"readingways.{path.stem}": bound_at_top(tree) for path, tree in trees().items()}
        for name, node in nodes(ast.ImportFrom):
            for part in node.names:
                self.assertIsNone(part.asname, (name, node.lineno))
                self.assertIn(part.name, defined[node.module], (name, node.lineno))

    def test_no_two_files_draw_from_one_another(self):
        drawn = {f"readingways.{path.stem}": {node.module for node in tree.body if isinstance(node, ast.ImportFrom)}
                 for path, tree in trees().items()}
        while drawn:
            free = [name for name, others in drawn.items() if not others & set(drawn)]
            self.assertNotEqual(free, [], drawn)
            drawn = {name: others for name, others in drawn.items() if name not in free}

    def test_each_name_once_at_a_files_top(self):
        for path, tree in trees().items():
            bound = bound_at_top(tree) + imported(tree)
            self.assertEqual(sorted(bound), sorted(set(bound)), path.name)

    def test_locals_are_called_like_no_class_and_no_import(self):
        for path, tree in trees().items():
            taken = set(imported(tree)) | {node.name for node in tree.body if isinstance(node, ast.ClassDef)}
            for function in [node for node in ast.walk(tree) if isinstance(node, ast.FunctionDef)]:
                for node in ast.walk(function):
                    local = getattr(node, "arg", None) or (getattr(node, "id", None) if is_stored(node) else None)
                    self.assertNotIn(local, taken, (path.name, function.name))

    def test_no_name_is_a_method_and_a_value(self):
        methods = {part.name for name, node in nodes(ast.ClassDef) for part in node.body if isinstance(part, ast.FunctionDef)}
        values = {node.attr for name, node in nodes(ast.Attribute) if is_stored(node)}
        self.assertEqual(methods & values, set())
        of_python = {name for kind in (str, int, list, tuple, dict, set, bytes) for name in dir(kind)}
        self.assertEqual((methods - {"__init__"} | values) & of_python, set())

    def test_is_stands_beside_none_alone(self):
        for name, node in nodes(ast.Compare):
            if any(isinstance(sign, (ast.Is, ast.IsNot)) for sign in node.ops):
                self.assertIsInstance(node.comparators[0], ast.Constant, (name, node.lineno))
                self.assertIsNone(node.comparators[0].value, (name, node.lineno))

    def test_only_own_errors_are_taken(self):
        own = {node.name for name, node in nodes(ast.ClassDef) if node.bases}
        for name, node in nodes(ast.ExceptHandler):
            self.assertIn(node.type.id, own, (name, node.lineno))

    def test_no_call_is_left_unwritten(self):
        self.assertEqual([name for name, node in nodes(ast.Name) if node.id == "NotImplementedError"], [])

    def test_walked_at_once(self):
        for path, tree in trees().items():
            walked = [node.iter for node in ast.walk(tree) if isinstance(node, (ast.For, ast.comprehension))]
            for node in ast.walk(tree):
                if isinstance(node, ast.Call) and called_name(node) in WALKED and node not in walked:
                    self.fail((path.name, node.lineno))

    def test_what_a_loop_walks_is_not_changed_in_it(self):
        for name, loop in nodes(ast.For):
            walked = {node.id for node in ast.walk(loop.iter) if isinstance(node, ast.Name)}
            for node in [part for row in loop.body for part in ast.walk(row)]:
                changed = None
                if isinstance(node, ast.Subscript) and is_stored(node):
                    changed = node.value
                if isinstance(node, ast.Call) and isinstance(node.func, ast.Attribute) and node.func.attr in CHANGING:
                    changed = node.func.value
                self.assertNotIn(getattr(changed, "id", None), walked, (name, loop.lineno))

    def test_sets_are_not_used(self):
        self.assertEqual(nodes(ast.Set), [])
        self.assertEqual([name for name, node in nodes(ast.Name) if node.id in ("set", "frozenset")], [])

    def test_keywords(self):
        allowed = {"sorted": ("key", "reverse"), "min": ("key", "default"), "max": ("key", "default"), "sum": ("start",),
                   "enumerate": ("start",), "zip": ("strict",)}
        for name, node in nodes(ast.Call):
            for keyword in node.keywords:
                self.assertIn(keyword.arg, allowed.get(called_name(node), ()), (name, node.lineno))

    def test_texts_and_powers(self):
        for name, node in nodes(ast.Constant):
            if isinstance(node.value, str):
                self.assertNotIn("%", node.value, (name, node.lineno))
        self.assertEqual(nodes(ast.Pow), [])


if __name__ == "__main__":
    unittest.main()
