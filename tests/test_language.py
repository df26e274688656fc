"""That the package keeps to the small part of Python that it is written in, as far as a test can see."""

import ast
import builtins
import pathlib
import re
import unittest

PACKAGE = pathlib.Path(__file__).resolve().parent.parent / "tyrepresses"
WORDS = (
    "type typing typing_extensions enum Enum IntEnum StrEnum Flag IntFlag Generic Protocol ABC ABCMeta namedtuple "
    "NamedTuple TypedDict TYPE_CHECKING abstractmethod"
).split()
PARTS = ("dataclass", "overload", "contextmanager")
NOT_NAMES = (
    "register mro elements open input version_info with_traceback add_note attrgetter breakpoint builtins compile "
    "copyright credits delattr dir eval exec exit gc getattr globals hasattr help id importlib license locals "
    "methodcaller os quit setattr super type vars sys"
).split()
BUILTINS = (
    "len range enumerate zip min max sum abs sorted reversed int str bool list tuple dict set frozenset isinstance "
    "ord repr any all divmod Exception ValueError TypeError KeyError IndexError LookupError ZeroDivisionError "
    "ArithmeticError OverflowError RuntimeError NotImplementedError AttributeError StopIteration"
).split()
METHODS = (
    "append clear copy count endswith extend find get index insert isalnum isalpha isdigit islower isspace isupper "
    "items join keys ljust lower lstrip partition pop remove replace reverse rfind rjust rpartition rsplit rstrip "
    "setdefault split splitlines startswith strip update upper values zfill bit_length"
).split()
NODES = (
    "Module FunctionDef ClassDef Return Assign AugAssign For While If Raise Try ExceptHandler ImportFrom alias Expr "
    "Pass Break Continue BoolOp And Or BinOp Add Sub Mult FloorDiv Mod Pow UnaryOp Not USub Lambda IfExp Dict "
    "ListComp comprehension Compare Eq NotEq Lt LtE Gt GtE Is IsNot In NotIn Call keyword Constant JoinedStr "
    "FormattedValue Attribute Subscript Name List Tuple Slice Load Store arguments arg"
).split()
DOUBLE = ("__init__", "__eq__", "__repr__", "__str__", "__len__")


def files():
    return sorted(path for path in PACKAGE.rglob("*") if "__pycache__" not in path.parts)


def nodes(path, *sorts):
    return [node for node in ast.walk(ast.parse(path.read_text())) if isinstance(node, sorts)]


def bound_names(path):
    found = []
    for node in nodes(path, ast.Name, ast.arg, ast.FunctionDef, ast.ClassDef, ast.alias):
        if isinstance(node, ast.Name):
            found += [node.id] if isinstance(node.ctx, ast.Store) else []
        else:
            found.append(node.arg if isinstance(node, ast.arg) else node.name)
    return found


class LanguageTest(unittest.TestCase):
    def test_files(self):
        self.assertTrue((PACKAGE / "__init__.py").is_file())
        for path in files():
            with self.subTest(file=path.name):
                self.assertRegex(path.name, r"^[a-z0-9_]+\.py$")
                self.assertNotIn(path.stem, dir(builtins) + WORDS + ["test", "tests", "testing", "site", "conftest"])

    def test_signs_and_sizes(self):
        for path in files():
            with self.subTest(file=path.name):
                text = path.read_bytes().decode()
                self.assertTrue(all(sign == "\n" or " " <= sign <= "~" for sign in text))
                rows = text.splitlines()
                self.assertLessEqual(len(rows), 400)
                self.assertLessEqual(max([len(row) for row in rows], default=0), 120)
                for node in nodes(path, ast.FunctionDef):
                    self.assertLessEqual(node.end_lineno - node.lineno + 1, 40, node.name)

    def test_words_that_stand_nowhere(self):
        for path in files():
            with self.subTest(file=path.name):
                text = path.read_text()
                self.assertEqual([word for word in re.findall(r"\w+", text) if word in WORDS], [])
                self.assertEqual([part for part in PARTS if part in text], [])

    def test_forms(self):
        for path in files():
            with self.subTest(file=path.name):
                for node in nodes(path, ast.AST):
                    self.assertIn(node.__class__.__name__, NODES, getattr(node, "lineno", 0))
                for node in nodes(path, ast.FunctionDef, ast.ClassDef):
                    self.assertEqual(node.decorator_list, [])
                for node in nodes(path, ast.For, ast.While, ast.Try):
                    self.assertFalse(node.orelse and not isinstance(node, ast.Try))
                    self.assertFalse(getattr(node, "finalbody", []))
                for node in nodes(path, ast.Assign):
                    self.assertEqual(len(node.targets), 1)
                for node in nodes(path, ast.Constant):
                    self.assertIn(node.value.__class__.__name__, ("int", "str", "bool", "NoneType"))

    def test_imports(self):
        for path in files():
            with self.subTest(file=path.name):
                for node in nodes(path, ast.ImportFrom):
                    self.assertEqual(node.level, 0)
                    package, name = node.module.split(".")
                    self.assertEqual(package, "tyrepresses")
                    defined = ast.parse((PACKAGE / (name + ".py")).read_text()).body
                    own = [part.name for part in defined if isinstance(part, (ast.FunctionDef, ast.ClassDef))]
                    own += [part.targets[0].id for part in defined if isinstance(part, ast.Assign)]
                    for drawn in node.names:
                        self.assertIn(drawn.name, own)

    def test_names(self):
        for path in files():
            with self.subTest(file=path.name):
                bound = bound_names(path)
                for name in bound:
                    self.assertNotIn(name, dir(builtins))
                    self.assertTrue(name in DOUBLE or not name.startswith("_"), name)
                read = [node.id for node in nodes(path, ast.Name) if node.id not in bound]
                for name in read:
                    self.assertIn(name, BUILTINS)
                attributes = [node.attr for node in nodes(path, ast.Attribute)]
                for name in bound + read + attributes:
                    self.assertNotIn(name, NOT_NAMES)

    def test_attributes(self):
        own = [
            node.attr for path in files() for node in nodes(path, ast.Attribute) if isinstance(node.ctx, ast.Store)
        ]
        methods = [node.name for path in files() for node in nodes(path, ast.FunctionDef)]
        foreign = [name for kind in (str, int, list, dict, set, bytes) for name in dir(kind)]
        for name in own:
            self.assertNotIn(name, foreign + methods)
        for path in files():
            with self.subTest(file=path.name):
                for node in nodes(path, ast.Attribute):
                    self.assertIn(node.attr, METHODS + own + methods)
