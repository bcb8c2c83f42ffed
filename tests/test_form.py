"""Whether the package keeps to the part of Python that it is written in, as far as a look at its text can tell."""

import ast
import builtins
import pathlib
import re
import unittest

PACKAGE = pathlib.Path(__file__).resolve().parent.parent / "fullrooms"
FILES = sorted(PACKAGE.glob("*.py"))

BUILTINS = set(
    "len range enumerate zip min max sum abs sorted reversed int str bool list tuple dict set frozenset isinstance ord "
    "repr any all divmod Exception ValueError TypeError KeyError IndexError LookupError ZeroDivisionError "
    "ArithmeticError OverflowError RuntimeError NotImplementedError AttributeError StopIteration".split()
)
METHODS = set(
    "append clear copy count endswith extend find get index insert isalnum isalpha isdigit islower isspace isupper "
    "items join keys ljust lower lstrip partition pop remove replace reverse rfind rjust rpartition rsplit rstrip "
    "setdefault split splitlines startswith strip update upper values zfill bit_length".split()
)
WORDS_OUT = re.compile(
    r"\b(type|typing|typing_extensions|enum|Enum|IntEnum|StrEnum|Flag|IntFlag|Generic|Protocol|ABC|ABCMeta|namedtuple"
    r"|NamedTuple|TypedDict|TYPE_CHECKING|abstractmethod)\b|dataclass|overload|contextmanager"
)
NAMES_OUT = set(
    "register mro elements open input version_info with_traceback add_note attrgetter breakpoint builtins compile "
    "copyright credits delattr dir eval exec exit gc getattr globals hasattr help id importlib license locals "
    "methodcaller os quit setattr super type vars sys".split()
)
NODES_OUT = (
    ast.With, ast.Match, ast.Delete, ast.Global, ast.Nonlocal, ast.Assert, ast.Yield, ast.YieldFrom, ast.Await,
    ast.AsyncFor, ast.AsyncFunctionDef, ast.AsyncWith, ast.Import, ast.SetComp, ast.DictComp, ast.GeneratorExp,
    ast.NamedExpr, ast.Starred, ast.Div, ast.MatMult, ast.AnnAssign, ast.Set,
)


def nodes_of(file, *kinds):
    return [node for node in ast.walk(ast.parse(file.read_text())) if isinstance(node, kinds)]


def bound_names(file):
    names = [node.name for node in nodes_of(file, ast.FunctionDef, ast.ClassDef)]
    names += [node.arg for node in nodes_of(file, ast.arg)]
    names += [node.id for node in nodes_of(file, ast.Name) if isinstance(node.ctx, ast.Store)]
    return names


def top_names(file):
    body = ast.parse(file.read_text()).body
    names = [node.name for node in body if isinstance(node, (ast.FunctionDef, ast.ClassDef))]
    return names + [node.targets[0].id for node in body if isinstance(node, ast.Assign)]


def given_through(target):
    """What stands at the beginning of a.b[c].d, through which a value is given."""
    while isinstance(target, (ast.Attribute, ast.Subscript)):
        target = target.value
    return target


class Form(unittest.TestCase):
    def test_only_python_files_lie_in_the_package(self):
        for path in PACKAGE.iterdir():
            if path.name != "__pycache__":
                self.assertRegex(path.name, r"^[a-z0-9_]+\.py$")
        self.assertIn("__init__.py", [file.name for file in FILES])

    def test_signs_and_sizes(self):
        for file in FILES:
            text = file.read_text()
            self.assertRegex(text, r"\A[ -~\n]*\Z")
            self.assertLessEqual(len(text.splitlines()), 400)
            self.assertLessEqual(max(len(line) for line in text.splitlines()), 120)
            self.assertIsNone(WORDS_OUT.search(text))

    def test_functions_are_short_and_plain(self):
        for file in FILES:
            for node in nodes_of(file, ast.FunctionDef):
                self.assertLessEqual(node.end_lineno - node.lineno + 1, 40, node.name)
                self.assertEqual(node.decorator_list, [])
                self.assertIsNone(node.args.vararg)
                self.assertIsNone(node.args.kwarg)
                self.assertEqual(node.args.kwonlyargs, [])

    def test_imports_are_the_package_s_own(self):
        for file in FILES:
            for node in nodes_of(file, ast.ImportFrom):
                self.assertEqual(node.level, 0)
                source = PACKAGE / (node.module.removeprefix("fullrooms.") + ".py")
                for alias in node.names:
                    self.assertIn(alias.name, top_names(source))

    def test_statements_and_expressions(self):
        for file in FILES:
            self.assertEqual([ast.dump(node) for node in nodes_of(file, *NODES_OUT)], [])
            for node in nodes_of(file, ast.Assign):
                self.assertEqual(len(node.targets), 1)
                self.assertNotIsInstance(node.targets[0], (ast.Tuple, ast.List))
            for node in nodes_of(file, ast.For, ast.While):
                self.assertEqual(node.orelse, [])
            for node in nodes_of(file, ast.Constant):
                self.assertIsInstance(node.value, (int, str, type(None)))

    def test_names(self):
        for file in FILES:
            for name in bound_names(file):
                self.assertRegex(name, r"^([A-Za-z][A-Za-z0-9_]*|__init__)$")
                self.assertFalse(name != "__init__" and hasattr(builtins, name), name)
                self.assertNotIn(name, NAMES_OUT)
            for node in nodes_of(file, ast.Name):
                if hasattr(builtins, node.id):
                    self.assertIn(node.id, BUILTINS)

    def test_values_are_given_through_local_names(self):
        for file in FILES:
            imported = [alias.name for node in nodes_of(file, ast.ImportFrom) for alias in node.names]
            for node in nodes_of(file, ast.Attribute, ast.Subscript):
                if isinstance(node.ctx, ast.Store):
                    start = given_through(node)
                    where = f"{file.name} row {node.lineno}"
                    self.assertIsInstance(start, ast.Name, where)
                    self.assertNotIn(start.id, top_names(file) + imported, where)

    def test_methods_and_values_of_objects(self):
        methods, values = set(), set()
        for file in FILES:
            for node in nodes_of(file, ast.ClassDef):
                methods |= {part.name for part in node.body if isinstance(part, ast.FunctionDef)}
            values |= {node.attr for node in nodes_of(file, ast.Attribute) if isinstance(node.ctx, ast.Store)}
        self.assertEqual(methods & values, set())
        for file in FILES:
            for node in nodes_of(file, ast.Attribute):
                self.assertIn(node.attr, methods | values | METHODS)
                self.assertNotIn(node.attr, NAMES_OUT)


if __name__ == "__main__":
    unittest.main()
