"""The package's files beside those rules of the language that can be read off their text."""

import ast
import builtins
import pathlib
import re
import unittest

PACKAGE = pathlib.Path(__file__).resolve().parent.parent / "firstbadyard"
FILES = sorted(path for path in PACKAGE.rglob("*") if path.is_file() and "__pycache__" not in path.parts)

PARTS = set("""
Module FunctionDef ClassDef arguments arg Return Assign AugAssign For While If Raise Try ExceptHandler
ImportFrom alias Expr Pass Break Continue Load Store Constant Name Attribute Subscript Slice Call
keyword List Tuple Dict Set ListComp comprehension Lambda IfExp BoolOp And Or UnaryOp Not USub Invert
BinOp Add Sub Mult FloorDiv Mod Pow LShift RShift BitOr BitXor BitAnd Compare Eq NotEq Lt LtE Gt GtE
Is IsNot In NotIn JoinedStr FormattedValue
""".split())
OWN_NAMES = set("""
len range enumerate zip min max sum abs sorted reversed int str bool list tuple dict set frozenset
isinstance ord repr any all divmod Exception ValueError TypeError KeyError IndexError LookupError
ZeroDivisionError ArithmeticError OverflowError RuntimeError NotImplementedError AttributeError
StopIteration
""".split())
OWN_METHODS = set("""
append clear copy count endswith extend find get index insert isalnum isalpha isdigit islower isspace
isupper items join keys ljust lower lstrip partition pop remove replace reverse rfind rjust rpartition
rsplit rstrip setdefault split splitlines startswith strip update upper values zfill bit_length
""".split())
WORDS_OUT = re.compile(
    r"\b(type|typing|typing_extensions|enum|Enum|IntEnum|StrEnum|Flag|IntFlag|Generic|Protocol|ABC|ABCMeta"
    r"|namedtuple|NamedTuple|TypedDict|TYPE_CHECKING|abstractmethod)\b|dataclass|overload|contextmanager"
)
NAMES_OUT = set("register mro elements open input version_info with_traceback add_note".split())


def trees():
    return [(path.name, ast.parse(path.read_text())) for path in FILES]


def walked(kind):
    return [(name, node) for name, tree in trees() for node in ast.walk(tree) if isinstance(node, kind)]


def stored_names(tree):
    names = [node.id for node in ast.walk(tree) if isinstance(node, ast.Name) and isinstance(node.ctx, ast.Store)]
    names += [node.arg for node in ast.walk(tree) if isinstance(node, ast.arg)]
    names += [node.name for node in ast.walk(tree) if isinstance(node, (ast.FunctionDef, ast.ClassDef))]
    return names


def names_of_the_top(tree):
    defined = [node.name for node in tree.body if isinstance(node, (ast.FunctionDef, ast.ClassDef))]
    return defined + [node.targets[0].id for node in tree.body if isinstance(node, ast.Assign)]


class Language(unittest.TestCase):
    def test_files(self):
        self.assertIn("__init__.py", [path.name for path in FILES])
        for path in FILES:
            self.assertRegex(path.name, r"^([a-z][a-z0-9_]*|__init__)\.py$")
            self.assertEqual(path.parent, PACKAGE)

    def test_signs_and_sizes(self):
        for path in FILES:
            text = path.read_bytes().decode("utf-8")
            self.assertRegex(text, r"\A[ -~\n]*\Z", path)
            rows = text.split("\n")
            self.assertLessEqual(len(rows), 400, path)
            self.assertLessEqual(max(len(row) for row in rows), 120, path)
            self.assertIsNone(WORDS_OUT.search(text), path)

    def test_parts_of_the_language(self):
        for name, node in walked(ast.AST):
            self.assertIn(node.__class__.__name__, PARTS, (name, getattr(node, "lineno", 0)))

    def test_constants(self):
        for name, node in walked(ast.Constant):
            self.assertTrue(node.value is None or node.value.__class__ in (int, str, bool), (name, node.lineno))

    def test_functions(self):
        for name, node in walked(ast.FunctionDef):
            self.assertLessEqual(node.end_lineno - node.lineno + 1, 40, (name, node.name))
            self.assertEqual(node.decorator_list, [])
            self.assertIsNone(node.args.vararg or node.args.kwarg)
            self.assertEqual(node.args.kwonlyargs + node.args.posonlyargs, [])

    def test_loops_and_comprehensions(self):
        for name, node in walked((ast.For, ast.While)):
            self.assertEqual(node.orelse, [], (name, node.lineno))
        for name, node in walked(ast.ListComp):
            self.assertEqual(len(node.generators), 1, (name, node.lineno))
            self.assertLessEqual(len(node.generators[0].ifs), 1, (name, node.lineno))
        for name, node in walked(ast.Assign):
            self.assertEqual(len(node.targets), 1, (name, node.lineno))

    def test_imports(self):
        for name, node in walked(ast.ImportFrom):
            self.assertEqual(node.level, 0)
            self.assertTrue(node.module.startswith("firstbadyard."), (name, node.module))
            self.assertEqual([one.name for one in node.names if one.name == "*" or one.asname], [])

    def test_names(self):
        for file_name, tree in trees():
            stored = stored_names(tree)
            imported = [one.name for node in ast.walk(tree) if isinstance(node, ast.ImportFrom) for one in node.names]
            for name in stored:
                self.assertRegex(name, r"^([A-Za-z][A-Za-z0-9_]*|__init__)$", file_name)
                self.assertNotIn(name, dir(builtins))
                self.assertNotIn(name, NAMES_OUT)
            for node in ast.walk(tree):
                if isinstance(node, ast.Name):
                    self.assertIn(node.id, OWN_NAMES | set(stored) | set(imported), (file_name, node.lineno))

    def test_methods(self):
        defined = [node.name for name, node in walked(ast.FunctionDef)]
        values = [node.attr for name, node in walked(ast.Attribute) if isinstance(node.ctx, ast.Store)]
        self.assertEqual(sorted(set(defined) & set(values)), [])
        for name, node in walked(ast.Attribute):
            self.assertIn(node.attr, OWN_METHODS | set(defined) | set(values), (name, node.lineno))

    def test_is_stands_beside_none_true_and_false(self):
        for name, node in walked(ast.Compare):
            for sign, right in zip(node.ops, node.comparators):
                if isinstance(sign, (ast.Is, ast.IsNot)):
                    self.assertIn(ast.unparse(right), ["None", "True", "False"], (name, node.lineno))

    def test_imported_names_are_defined_in_the_very_file(self):
        bound = {name: names_of_the_top(tree) for name, tree in trees()}
        for name, node in walked(ast.ImportFrom):
            for one in node.names:
                self.assertIn(one.name, bound[node.module.split(".")[1] + ".py"], name)

    def test_no_two_files_draw_from_one_another(self):
        drawn = [(name[:-3], node.module.split(".")[1]) for name, node in walked(ast.ImportFrom)]
        left = sorted(set(name for pair in drawn for name in pair))
        while left:
            ends = [name for name in left if not any(pair[0] == name and pair[1] in left for pair in drawn)]
            self.assertNotEqual(ends, [], left)
            left = [name for name in left if name not in ends]

    def test_keywords(self):
        allowed = {"sorted": {"key", "reverse"}, "min": {"key", "default"}, "max": {"key", "default"}}
        for name, node in walked(ast.Call):
            for given in node.keywords:
                self.assertIn(given.arg, allowed.get(ast.unparse(node.func), ()), (name, node.lineno))

    def test_names_of_python_are_called_not_kept(self):
        for name, tree in trees():
            called = [node.func for node in ast.walk(tree) if isinstance(node, ast.Call)]
            for node in ast.walk(tree):
                if isinstance(node, ast.Name) and node.id in OWN_NAMES:
                    self.assertIn(node, called, (name, node.lineno))

    def test_sets_stand_nowhere(self):
        self.assertEqual(walked(ast.Set), [])
        self.assertEqual([node for name, node in walked(ast.Name) if node.id in ("set", "frozenset")], [])
