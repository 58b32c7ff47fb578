"""The form of the package's files: a part of the rules, those that a walk over the code can see.

It also holds what point 1 says of clocks, chance and files: nothing is drawn from outside the package.
"""

import ast
import builtins
import pathlib
import re
import unittest

import clubroll

PACKAGE = pathlib.Path(clubroll.__file__).parent

STATEMENTS = (
    ast.Assign, ast.AugAssign, ast.If, ast.While, ast.For, ast.Return, ast.Break, ast.Continue, ast.Pass,
    ast.Raise, ast.Try, ast.ExceptHandler, ast.Expr, ast.ImportFrom, ast.FunctionDef, ast.ClassDef,
)
EXPRESSIONS = (
    ast.Constant, ast.List, ast.Tuple, ast.Dict, ast.BinOp, ast.UnaryOp, ast.BoolOp, ast.Compare, ast.IfExp,
    ast.Call, ast.Attribute, ast.Subscript, ast.Slice, ast.ListComp, ast.comprehension, ast.JoinedStr,
    ast.FormattedValue, ast.Name, ast.Lambda,
)
PARTS = (
    ast.Module, ast.alias, ast.arguments, ast.arg, ast.keyword, ast.expr_context, ast.operator, ast.unaryop,
    ast.boolop, ast.cmpop,
)
BUILT_IN = set(
    "len range enumerate zip min max sum abs sorted reversed int str bool list tuple dict set frozenset "
    "isinstance ord repr any all divmod Exception ValueError TypeError KeyError IndexError LookupError "
    "ZeroDivisionError ArithmeticError OverflowError RuntimeError NotImplementedError AttributeError "
    "StopIteration".split()
)
WORDS = re.compile(
    r"\b(type|typing|typing_extensions|enum|Enum|IntEnum|StrEnum|Flag|IntFlag|Generic|Protocol|ABC|ABCMeta"
    r"|namedtuple|NamedTuple|TypedDict|TYPE_CHECKING|abstractmethod)\b|dataclass|overload|contextmanager"
)
CALLED = set(
    "append clear copy count endswith extend find get index insert isalnum isalpha isdigit islower isspace isupper "
    "items join keys ljust lower lstrip partition pop remove replace reverse rfind rjust rpartition rsplit rstrip "
    "setdefault split splitlines startswith strip update upper values zfill bit_length".split()
)
METHODS = ("__init__", "__eq__", "__repr__", "__str__", "__len__")


def files():
    return sorted(PACKAGE.glob("**/*.py"))


def nodes():
    for file in files():
        for node in ast.walk(ast.parse(file.read_text("utf-8"))):
            yield f"{file.name}:{getattr(node, 'lineno', 0)}", node


def bound_names(node):
    if isinstance(node, (ast.FunctionDef, ast.ClassDef)):
        return [node.name]
    if isinstance(node, ast.arg):
        return [node.arg]
    if isinstance(node, ast.Name) and isinstance(node.ctx, ast.Store):
        return [node.id]
    return []


def called(node):
    return node.func.id if isinstance(node, ast.Call) and isinstance(node.func, ast.Name) else None


def sets_used_in(node):
    """The sets that stand straight within this part of the code, made by a call or of two others."""
    return [part for part in ast.iter_child_nodes(node) if is_set(part)]


def is_set(node):
    if isinstance(node, ast.BinOp):
        return is_set(node.left) or is_set(node.right)
    return called(node) in ("set", "frozenset")


class Files(unittest.TestCase):
    def test_the_package_holds_python_files_alone(self):
        self.assertTrue((PACKAGE / "__init__.py").is_file())
        for path in PACKAGE.rglob("*"):
            if "__pycache__" not in path.parts and path.is_file():
                self.assertRegex(path.name, r"\A[a-z0-9_]+\.py\Z")

    def test_signs_and_sizes(self):
        for file in files():
            with self.subTest(file=file.name):
                text = file.read_bytes().decode("ascii")
                self.assertRegex(text, r"\A[ -~\n]*\Z")
                self.assertLessEqual(len(text.split("\n")), 400)
                self.assertLessEqual(max(len(line) for line in text.split("\n")), 120)

    def test_words_that_stand_nowhere(self):
        for file in files():
            with self.subTest(file=file.name):
                self.assertIsNone(WORDS.search(file.read_text("utf-8")))


class Code(unittest.TestCase):
    def test_only_the_plain_part_of_the_language(self):
        for where, node in nodes():
            with self.subTest(where=where):
                self.assertIsInstance(node, STATEMENTS + EXPRESSIONS + PARTS)
                self.assertNotIsInstance(node, (ast.Div, ast.MatMult))
                if isinstance(node, ast.Constant):
                    self.assertIn(type(node.value), (int, str, bool, type(None)))
                if isinstance(node, (ast.FunctionDef, ast.ClassDef)):
                    self.assertEqual(node.decorator_list, [])
                    self.assertTrue(isinstance(node, ast.ClassDef) or node.end_lineno - node.lineno < 40)

    def test_only_the_packages_own_modules_are_drawn_from(self):
        for where, node in nodes():
            if isinstance(node, ast.ImportFrom):
                with self.subTest(where=where):
                    self.assertEqual(node.level, 0)
                    self.assertTrue(node.module.startswith("clubroll."))
                    source = PACKAGE.parent.joinpath(*node.module.split(".")).with_suffix(".py")
                    defined = [name for made in ast.parse(source.read_text("utf-8")).body for name in bound_names(made)]
                    for drawn in node.names:
                        self.assertIn(drawn.name, defined)

    def test_only_the_listed_methods(self):
        for where, node in nodes():
            if isinstance(node, ast.Attribute):
                with self.subTest(where=where):
                    self.assertIn(node.attr, CALLED)

    def test_a_set_is_neither_kept_nor_walked(self):
        for where, node in nodes():
            for made in sets_used_in(node):
                with self.subTest(where=where):
                    self.assertTrue(isinstance(node, (ast.Compare, ast.BinOp)) or called(node) in ("sorted", "len"))
                    self.assertEqual(getattr(node, "keywords", []), [])

    def test_only_the_listed_names_of_python(self):
        for where, node in nodes():
            if isinstance(node, ast.Name) and node.id in vars(builtins):
                with self.subTest(where=where):
                    self.assertIn(node.id, BUILT_IN)

    def test_plain_names(self):
        for where, node in nodes():
            for name in bound_names(node):
                with self.subTest(where=where):
                    self.assertNotIn(name, vars(builtins))
                    self.assertTrue(name in METHODS or not name.startswith("_"))


if __name__ == "__main__":
    unittest.main()
