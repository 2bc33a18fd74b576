"""The form of the package's files: the rules of the language that can be seen in a file by itself."""

import ast
import pathlib
import re
import unittest

PACKAGE = pathlib.Path(__file__).resolve().parent.parent / "sealedbox"
FILES = sorted(PACKAGE.rglob("*.py"))
BUILT_IN = set(dir(__builtins__) if not isinstance(__builtins__, dict) else __builtins__)
USED = set("""len range enumerate zip min max sum abs sorted reversed int str bool list tuple dict set frozenset
isinstance ord repr any all divmod Exception ValueError TypeError KeyError IndexError LookupError ZeroDivisionError
ArithmeticError OverflowError RuntimeError NotImplementedError AttributeError StopIteration""".split())
METHODS = set("""append clear copy count endswith extend find get index insert isalnum isalpha isdigit islower isspace
isupper items join keys ljust lower lstrip partition pop remove replace reverse rfind rjust rpartition rsplit rstrip
setdefault split splitlines startswith strip update upper values zfill bit_length""".split())
UNUSED = set("""register mro elements open input version_info with_traceback add_note attrgetter breakpoint builtins
compile copyright credits delattr dir eval exec exit gc getattr globals hasattr help id importlib license locals
methodcaller os quit setattr super type vars sys __name__""".split())
WORDS = re.compile(r"\b(type|typing|typing_extensions|enum|Enum|IntEnum|StrEnum|Flag|IntFlag|Generic|Protocol|ABC"
                   r"|ABCMeta|namedtuple|NamedTuple|TypedDict|TYPE_CHECKING|abstractmethod)\b"
                   r"|dataclass|overload|contextmanager")
NODES = set("""Module FunctionDef ClassDef arguments arg Expr Assign AugAssign If While For Return Break Continue Pass
Raise Try ExceptHandler ImportFrom alias Constant List Tuple Dict Name Attribute Subscript Slice Call keyword Compare
BoolOp And Or Not UnaryOp USub IfExp ListComp comprehension Lambda JoinedStr FormattedValue Load Store BinOp Add Sub
Mult FloorDiv Mod Pow LShift RShift BitAnd BitOr BitXor Invert Eq NotEq Lt LtE Gt GtE Is IsNot In NotIn""".split())
TOP = (ast.ImportFrom, ast.FunctionDef, ast.ClassDef, ast.Assign)


def nodes(path, *kinds):
    return [node for node in ast.walk(ast.parse(path.read_text())) if isinstance(node, kinds or ast.AST)]


def bound_names(node):
    """The names that a def binds: its parameters and locals."""
    names = [part.arg for part in ast.walk(node) if isinstance(part, ast.arg)]
    stored = [part for part in ast.walk(node) if isinstance(getattr(part, "ctx", None), ast.Store)]
    return names + [part.id for part in stored if isinstance(part, ast.Name)]


class Language(unittest.TestCase):
    def test_there_are_files(self):
        self.assertIn(PACKAGE / "boxes.py", FILES)

    def test_files_and_signs(self):
        for path in PACKAGE.rglob("*"):
            if "__pycache__" not in path.parts:
                self.assertEqual(path.parent, PACKAGE)
                self.assertRegex(path.name, r"^[a-z][a-z0-9_]*\.py$|^__init__\.py$")
                self.assertNotIn(path.stem, BUILT_IN | {"test", "tests", "testing", "site", "conftest"})
        for path in FILES:
            with self.subTest(file=path.name):
                for sign in path.read_bytes():
                    self.assertTrue(sign == 10 or 32 <= sign <= 126)

    def test_sizes(self):
        for path in FILES:
            with self.subTest(file=path.name):
                lines = path.read_text().split("\n")
                self.assertLessEqual(len(lines), 400)
                self.assertLessEqual(max(map(len, lines)), 120)
                for node in nodes(path, ast.FunctionDef):
                    self.assertLessEqual(node.end_lineno - node.lineno + 1, 40, node.name)

    def test_words_that_stand_nowhere(self):
        for path in FILES:
            with self.subTest(file=path.name):
                self.assertIsNone(WORDS.search(path.read_text()))
                for node in nodes(path, ast.Constant):
                    self.assertNotIn("%", str(node.value))

    def test_statements_and_expressions(self):
        for path in FILES:
            with self.subTest(file=path.name):
                for node in nodes(path):
                    self.assertIn(type(node).__name__, NODES)
                    if isinstance(node, ast.Assign):
                        self.assertEqual(len(node.targets), 1)
                        self.assertNotIsInstance(node.targets[0], (ast.Tuple, ast.List))
                    if isinstance(node, (ast.For, ast.While)):
                        self.assertEqual(node.orelse, [])
                    if isinstance(node, ast.Constant):
                        self.assertIsInstance(node.value, (int, str, type(None)))
                    if isinstance(node, ast.Pow):
                        self.fail("a power")
                    if isinstance(node, ast.Compare) and isinstance(node.ops[0], (ast.Is, ast.IsNot)):
                        self.assertIn(ast.unparse(node.comparators[0]), ("None", "True", "False"))

    def test_functions_are_plain(self):
        for path in FILES:
            with self.subTest(file=path.name):
                for node in nodes(path, ast.FunctionDef):
                    plain = node.args
                    self.assertFalse(node.decorator_list or node.returns)
                    self.assertFalse(plain.vararg or plain.kwarg or plain.kwonlyargs or plain.posonlyargs)

    def test_tops(self):
        for path in FILES:
            with self.subTest(file=path.name):
                tree = ast.parse(path.read_text())
                self.assertIsNotNone(ast.get_docstring(tree))
                for node in tree.body[1:]:
                    self.assertIsInstance(node, TOP)
                names = [node.name for node in tree.body if isinstance(node, (ast.FunctionDef, ast.ClassDef))]
                names += [node.targets[0].id for node in tree.body if isinstance(node, ast.Assign)]
                names += [alias.name for node in tree.body if isinstance(node, ast.ImportFrom) for alias in node.names]
                self.assertEqual(len(names), len(set(names)))
                self.assertFalse(set(names) & BUILT_IN)

    def test_names(self):
        for path in FILES:
            with self.subTest(file=path.name):
                tree = ast.parse(path.read_text())
                taken = {alias.name for node in tree.body if isinstance(node, ast.ImportFrom) for alias in node.names}
                taken |= {node.name for node in tree.body if isinstance(node, ast.ClassDef)}
                for node in nodes(path, ast.FunctionDef):
                    self.assertFalse(set(bound_names(node)) & (taken | BUILT_IN), node.name)
                    self.assertNotIn(node.name, UNUSED)
                for node in nodes(path, ast.Name):
                    self.assertFalse(node.id.startswith("_") or node.id in UNUSED, node.id)
                    self.assertFalse(node.id in BUILT_IN - USED, node.id)
                for node in nodes(path, ast.Attribute):
                    self.assertFalse(node.attr.startswith("_") or node.attr in UNUSED, node.attr)

    def test_imports_come_from_where_the_name_is_defined(self):
        drawn = {}
        for path in FILES:
            with self.subTest(file=path.name):
                drawn[path.stem] = []
                for node in nodes(path, ast.ImportFrom):
                    self.assertRegex(node.module, r"^sealedbox\.[a-z_]+$")
                    source = ast.parse((PACKAGE / (node.module.split(".")[1] + ".py")).read_text())
                    defined = [x.name for x in source.body if isinstance(x, (ast.FunctionDef, ast.ClassDef))]
                    defined += [x.targets[0].id for x in source.body if isinstance(x, ast.Assign)]
                    for alias in node.names:
                        self.assertIn(alias.name, defined)
                        self.assertIsNone(alias.asname)
                    drawn[path.stem].append(node.module.split(".")[1])
        self.assert_no_ring(drawn)

    def assert_no_ring(self, drawn):
        while drawn:
            free = [name for name in drawn if not set(drawn[name]) & set(drawn)]
            self.assertTrue(free, drawn)
            drawn = {name: drawn[name] for name in drawn if name not in free}

    def test_methods_and_values(self):
        methods, values, called = set(), set(), set()
        for path in FILES:
            with self.subTest(file=path.name):
                for node in nodes(path, ast.ClassDef):
                    methods |= {part.name for part in node.body if isinstance(part, ast.FunctionDef)}
                for node in nodes(path, ast.Attribute):
                    if isinstance(node.ctx, ast.Store):
                        values.add(node.attr)
                called |= {node.func.attr for node in nodes(path, ast.Call) if isinstance(node.func, ast.Attribute)}
        self.assertFalse(methods & values)
        self.assertLessEqual(called, METHODS | methods)


if __name__ == "__main__":
    unittest.main()
