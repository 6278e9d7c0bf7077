"""The form of the package's own files, as far as it can be read off them."""

import ast
import builtins
import pathlib
import re
import unittest

PACKAGE = pathlib.Path(__file__).resolve().parent.parent / "whynone"

ALLOWED_NODES = """
    Module Import ImportFrom alias FunctionDef ClassDef arguments arg Return Assign AugAssign For While If Raise Try
    ExceptHandler Expr Pass Break Continue BoolOp BinOp UnaryOp Lambda IfExp Dict Set ListComp comprehension Compare
    Call JoinedStr FormattedValue Constant Attribute Subscript Name List Tuple Slice Load Store keyword
    And Or Add Sub Mult FloorDiv Mod Pow LShift RShift BitOr BitXor BitAnd Invert Not USub UAdd
    Eq NotEq Lt LtE Gt GtE Is IsNot In NotIn
""".split()

ALLOWED_BUILTINS = """
    len range enumerate zip min max sum abs sorted reversed int str bool list tuple dict set frozenset isinstance ord
    repr any all divmod Exception ValueError TypeError KeyError IndexError LookupError ZeroDivisionError
    ArithmeticError OverflowError RuntimeError NotImplementedError AttributeError StopIteration
""".split()

ALLOWED_METHODS = """
    append clear copy count endswith extend find get index insert isalnum isalpha isdigit islower isspace isupper items
    join keys ljust lower lstrip partition pop remove replace reverse rfind rjust rpartition rsplit rstrip setdefault
    split splitlines startswith strip update upper values zfill bit_length
""".split()

FORBIDDEN_NAMES = """
    register mro elements open input version_info with_traceback add_note attrgetter breakpoint builtins compile
    copyright credits delattr dir eval exec exit gc getattr globals hasattr help id importlib license locals
    methodcaller os quit setattr super vars sys
""".split()

FORBIDDEN_WORDS = re.compile(
    r"\b(type|typing|typing_extensions|enum|Enum|IntEnum|StrEnum|Flag|IntFlag|Generic|Protocol|ABC|ABCMeta|namedtuple"
    r"|NamedTuple|TypedDict|TYPE_CHECKING|abstractmethod)\b|dataclass|overload|contextmanager")

SPECIAL_METHODS = ("__init__", "__eq__", "__repr__", "__str__", "__len__")


def files():
    return sorted(PACKAGE.rglob("*.py"))


def nodes(kind):
    return [node for path in files() for node in ast.walk(ast.parse(path.read_text())) if isinstance(node, kind)]


def bound_names():
    """All names that the package binds, methods and values of objects among them."""
    names = [node.name for node in nodes((ast.FunctionDef, ast.ClassDef))]
    names += [node.arg for node in nodes(ast.arg)]
    names += [node.id for node in nodes(ast.Name) if isinstance(node.ctx, ast.Store)]
    return names + [node.attr for node in nodes(ast.Attribute) if isinstance(node.ctx, ast.Store)]


class Files(unittest.TestCase):

    def test_only_python_files(self):
        for path in PACKAGE.rglob("*"):
            if path.is_file() and path.parent.name != "__pycache__":
                self.assertRegex(path.name, r"^(__init__|[a-z][a-z0-9_]*)\.py$")

    def test_signs_and_sizes(self):
        for path in files():
            text = path.read_bytes().decode("ascii")
            self.assertRegex(text, r"^[ -~\n]*$")
            lines = text.split("\n")
            self.assertLessEqual(len(lines), 400)
            self.assertLessEqual(max(len(line) for line in lines), 120)
            self.assertIsNone(FORBIDDEN_WORDS.search(text), path)

    def test_functions_are_short(self):
        for node in nodes(ast.FunctionDef):
            self.assertLessEqual(node.end_lineno - node.lineno + 1, 40, node.name)

    def test_imports(self):
        self.assertEqual(nodes(ast.Import), [])
        for node in nodes(ast.ImportFrom):
            self.assertRegex(node.module, r"^whynone\.[a-z]+$")
            self.assertEqual(node.level, 0)
            for alias in node.names:
                self.assertNotEqual(alias.name, "*")


class Code(unittest.TestCase):

    def test_kinds_of_code(self):
        for node in nodes(ast.AST):
            self.assertIn(node.__class__.__name__, ALLOWED_NODES)

    def test_plain_defs(self):
        for node in nodes(ast.FunctionDef):
            self.assertEqual(node.decorator_list, [])
            self.assertIsNone(node.returns)
            self.assertIsNone(node.args.vararg or node.args.kwarg)
            self.assertEqual(node.args.kwonlyargs + node.args.posonlyargs, [])
        self.assertEqual([node.arg for node in nodes(ast.arg) if node.annotation], [])

    def test_plain_loops_and_targets(self):
        for node in nodes((ast.For, ast.While)):
            self.assertEqual(node.orelse, [])
        for node in nodes(ast.Assign):
            self.assertEqual(len(node.targets), 1)
        for node in nodes(ast.ListComp):
            self.assertEqual(len(node.generators), 1)
            self.assertLessEqual(len(node.generators[0].ifs), 1)

    def test_values(self):
        for node in nodes(ast.Constant):
            self.assertIn(node.value.__class__, (int, str, bool, type(None)))


class Names(unittest.TestCase):

    def test_plain_names(self):
        for name in bound_names():
            if name not in SPECIAL_METHODS:
                self.assertRegex(name, r"^[A-Za-z][A-Za-z0-9_]*$")
                self.assertFalse(hasattr(builtins, name), name)
                self.assertNotIn(name, FORBIDDEN_NAMES)

    def test_names_of_python(self):
        for node in nodes(ast.Name):
            if hasattr(builtins, node.id):
                self.assertIn(node.id, ALLOWED_BUILTINS)

    def test_methods(self):
        own = bound_names()
        for node in nodes(ast.Call):
            if isinstance(node.func, ast.Attribute):
                self.assertIn(node.func.attr, ALLOWED_METHODS + own)

    def test_no_name_is_a_method_and_a_value(self):
        methods = [part.name for node in nodes(ast.ClassDef) for part in node.body if isinstance(part, ast.FunctionDef)]
        values = [node.attr for node in nodes(ast.Attribute) if isinstance(node.ctx, ast.Store)]
        self.assertEqual(set(methods) & set(values), set())


if __name__ == "__main__":
    unittest.main()
