"""What of the language's rules can be seen in the syntax tree: not all of them, but the ones met most often."""

import ast
import builtins
import pathlib
import re
import unittest

PACKAGE = pathlib.Path(__file__).resolve().parent.parent / "treewords"

PLAIN_NODES = """
    Module FunctionDef ClassDef arguments arg Return Assign AugAssign For While If Raise Try ExceptHandler Expr Pass
    Break Continue ImportFrom alias BoolOp And Or BinOp Add Sub Mult FloorDiv Mod Pow LShift RShift BitOr BitXor
    BitAnd UnaryOp Invert Not USub Lambda IfExp Dict ListComp comprehension Compare Eq NotEq Lt LtE Gt GtE Is IsNot
    In NotIn Call keyword FormattedValue JoinedStr Constant Attribute Subscript Name List Tuple Slice Load Store
""".split()

PYTHONS_NAMES = """
    len range enumerate zip min max sum abs sorted reversed int str bool list tuple dict set frozenset isinstance ord
    repr any all divmod Exception ValueError TypeError KeyError IndexError LookupError ZeroDivisionError
    ArithmeticError OverflowError RuntimeError NotImplementedError AttributeError StopIteration
""".split()

PYTHONS_METHODS = """
    append clear copy count endswith extend find get index insert isalnum isalpha isdigit islower isspace isupper items
    join keys ljust lower lstrip partition pop remove replace reverse rfind rjust rpartition rsplit rstrip setdefault
    split splitlines startswith strip update upper values zfill bit_length
""".split()

WORDS_LEFT_OUT = """
    type typing typing_extensions enum Enum IntEnum StrEnum Flag IntFlag Generic Protocol ABC ABCMeta namedtuple
    NamedTuple TypedDict TYPE_CHECKING abstractmethod
""".split()


class Form(unittest.TestCase):

    def setUp(self):
        self.sources = {path: path.read_text("utf-8") for path in sorted(PACKAGE.rglob("*.py"))}
        self.trees = {path: ast.parse(source) for path, source in self.sources.items()}

    def nodes(self, kind=ast.AST):
        return [(f"{path.name}:{getattr(node, 'lineno', 0)}", node) for path, tree in self.trees.items()
                for node in ast.walk(tree) if isinstance(node, kind)]

    def test_the_package_holds_plain_files_alone(self):
        for path in PACKAGE.rglob("*"):
            if "__pycache__" not in path.parts:
                self.assertRegex(path.name, r"^([a-z][a-z0-9_]*|__init__|__main__)\.py$")

    def test_imports_are_of_the_package_alone(self):
        for where, node in self.nodes(ast.ImportFrom):
            self.assertTrue(node.level == 0 and node.module.startswith("treewords."), where)
            self.assertNotIn("*", [part.name for part in node.names], where)

    def test_sizes_and_signs(self):
        for path, source in self.sources.items():
            self.assertLessEqual(len(source.splitlines()), 400, path)
            self.assertRegex(source, r"\A[ -~\n]*\Z")
            self.assertLessEqual(max([0] + [len(row) for row in source.split("\n")]), 120, path)
        for where, node in self.nodes(ast.FunctionDef):
            self.assertLessEqual(node.end_lineno - node.lineno + 1, 40, where)

    def test_words_that_stand_nowhere(self):
        for path, source in self.sources.items():
            words = set(re.findall(r"\w+", source))
            self.assertEqual(words & set(WORDS_LEFT_OUT), set(), path)
            self.assertNotRegex(source, "dataclass|overload|contextmanager")

    def test_plain_syntax(self):
        for where, node in self.nodes():
            self.assertIn(node.__class__.__name__, PLAIN_NODES, where)
        for where, node in self.nodes((ast.FunctionDef, ast.ClassDef)):
            self.assertEqual(node.decorator_list, [], where)
        for where, node in self.nodes(ast.Assign):
            self.assertEqual(len(node.targets), 1, where)
        for where, node in self.nodes((ast.For, ast.While)):
            self.assertEqual(node.orelse, [], where)
        for where, node in self.nodes(ast.ListComp):
            self.assertTrue(len(node.generators) == 1 and len(node.generators[0].ifs) <= 1, where)
        for where, node in self.nodes(ast.Constant):
            self.assertIn(node.value.__class__, (int, str, bool, type(None)), where)

    def test_names(self):
        for where, node in self.nodes((ast.Name, ast.arg)):
            name = node.id if isinstance(node, ast.Name) else node.arg
            self.assertNotEqual(name[0], "_", where)
            if hasattr(builtins, name):
                self.assertIn(name, PYTHONS_NAMES, where)
                self.assertIsInstance(getattr(node, "ctx", None), ast.Load, where)

    def test_methods(self):
        own = [node.name for where, node in self.nodes(ast.FunctionDef)]
        for where, node in self.nodes(ast.Call):
            if isinstance(node.func, ast.Attribute):
                self.assertIn(node.func.attr, PYTHONS_METHODS + own, where)


if __name__ == "__main__":
    unittest.main()
