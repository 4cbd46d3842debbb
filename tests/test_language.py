"""Holds the package's files against those rules of the language that a walk over the code can see."""

import ast
import builtins
import pathlib
import re
import unittest

PACKAGE = pathlib.Path(__file__).resolve().parent.parent / "fairlines"

NODES = set(
    """Module Expr Constant ImportFrom alias FunctionDef arguments arg Lambda ClassDef Assign AugAssign If While For
    Return Break Continue Pass Raise Try ExceptHandler Name Load Store Attribute Subscript Slice Call keyword List
    Tuple Dict ListComp comprehension IfExp BoolOp And Or UnaryOp Not USub Invert BinOp Add Sub Mult FloorDiv Mod Pow
    BitAnd BitOr BitXor LShift RShift Compare Eq NotEq Lt LtE Gt GtE In NotIn Is IsNot JoinedStr
    FormattedValue""".split()
)
OWN_NAMES = set(
    """len range enumerate zip min max sum abs sorted reversed int str bool list tuple dict set frozenset isinstance
    ord repr any all divmod Exception ValueError TypeError KeyError IndexError LookupError ZeroDivisionError
    ArithmeticError OverflowError RuntimeError NotImplementedError StopIteration""".split()
)
OWN_METHODS = set(
    """append clear copy count endswith extend find get index insert isalnum isalpha isdigit islower isspace isupper
    items join keys ljust lower lstrip partition pop remove replace reverse rfind rjust rpartition rsplit rstrip
    setdefault split splitlines startswith strip update upper values zfill bit_length""".split()
)
SPECIAL_METHODS = {"__init__", "__eq__", "__repr__", "__str__", "__len__"}
BANNED_WORDS = re.compile(
    r"\b(type|typing|typing_extensions|enum|Enum|IntEnum|StrEnum|Flag|IntFlag|Generic|Protocol|ABC|ABCMeta"
    r"|namedtuple|NamedTuple|TypedDict|TYPE_CHECKING|abstractmethod)\b|dataclass|overload|contextmanager"
)


def sources():
    return {path: path.read_text("utf-8") for path in sorted(PACKAGE.glob("*.py"))}


def trees():
    return {path.name: ast.parse(text) for path, text in sources().items()}


def walked():
    return [(name, node) for name, tree in trees().items() for node in ast.walk(tree)]


class Language(unittest.TestCase):
    def each(self, holds, pairs):
        for name, node in pairs:
            self.assertTrue(holds(node), f"{name}:{getattr(node, 'lineno', 0)}: {ast.dump(node)[:200]}")

    def nodes(self, *kinds):
        return [(name, node) for name, node in walked() if isinstance(node, kinds)]

    def test_the_package_holds_plain_files_alone(self):
        names = {path.name for path in PACKAGE.iterdir() if path.name != "__pycache__"}
        self.assertIn("__init__.py", names)
        for name in names:
            self.assertRegex(name, r"\A([a-z][a-z0-9_]*|__init__)\.py\Z")

    def test_sizes_and_signs(self):
        for path, text in sources().items():
            self.assertRegex(text, r"\A[ -~\n]*\Z", path.name)
            self.assertLessEqual(len(text.splitlines()), 400, path.name)
            self.assertLessEqual(max(map(len, text.splitlines())), 120, path.name)
            self.assertIsNone(BANNED_WORDS.search(text), path.name)
        self.each(lambda node: node.end_lineno - node.lineno < 40, self.nodes(ast.FunctionDef))

    def test_forms(self):
        self.each(lambda node: type(node).__name__ in NODES, walked())
        self.each(lambda node: len(node.targets) == 1, self.nodes(ast.Assign))
        self.each(lambda node: not node.orelse, self.nodes(ast.For, ast.While))
        self.each(lambda node: not node.decorator_list, self.nodes(ast.FunctionDef, ast.ClassDef))
        self.each(lambda node: len(node.generators) == 1 and len(node.generators[0].ifs) <= 1, self.nodes(ast.ListComp))
        self.each(lambda node: node.value is None or isinstance(node.value, (bool, int, str)), self.nodes(ast.Constant))

    def test_imports_are_of_the_package_alone(self):
        self.each(lambda node: node.level == 0 and node.module.startswith("fairlines."), self.nodes(ast.ImportFrom))

    def test_names_of_pythons_own(self):
        held = set(dir(builtins))
        self.each(lambda node: node.id not in held or node.id in OWN_NAMES, self.nodes(ast.Name))
        self.each(lambda node: node.arg not in held, self.nodes(ast.arg))
        stored = [(name, node) for name, node in self.nodes(ast.Name) if isinstance(node.ctx, ast.Store)]
        self.each(lambda node: node.id not in held and not node.id.startswith("_"), stored)

    def test_methods(self):
        made = {node.name for name, node in self.nodes(ast.FunctionDef)}
        self.assertFalse({name for name in made if name.startswith("_")} - SPECIAL_METHODS)
        called = [(name, node) for name, node in self.nodes(ast.Call) if isinstance(node.func, ast.Attribute)]
        self.each(lambda node: node.func.attr in OWN_METHODS | made, called)


if __name__ == "__main__":
    unittest.main()
