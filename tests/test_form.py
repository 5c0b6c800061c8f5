"""The form of the package's files, as far as it can be read off them: only values in, only values out."""

import ast
import builtins
import inspect
import pathlib
import re
import unittest

import wordfinder
from wordfinder import merging, words

PACKAGE = pathlib.Path(wordfinder.__file__).parent
FILES = sorted(PACKAGE.rglob("*.py"))

ALLOWED_BUILTINS = """
    len range enumerate zip min max sum abs sorted reversed int str bool list tuple dict set frozenset isinstance ord
    repr any all divmod Exception ValueError TypeError KeyError IndexError LookupError ZeroDivisionError
    ArithmeticError OverflowError RuntimeError NotImplementedError AttributeError StopIteration
""".split()

ALLOWED_METHODS = """
    append clear copy count endswith extend find get index insert isalnum isalpha isdigit islower isspace isupper
    items join keys ljust lower lstrip partition pop remove replace reverse rfind rjust rpartition rsplit rstrip
    setdefault split splitlines startswith strip update upper values zfill bit_length
""".split()

ALLOWED_DUNDERS = "__init__ __eq__ __repr__ __str__ __len__".split()

BANNED_WORDS = """
    type typing typing_extensions enum Enum IntEnum StrEnum Flag IntFlag Generic Protocol ABC ABCMeta namedtuple
    NamedTuple TypedDict TYPE_CHECKING abstractmethod
""".split()

BANNED_NODES = (
    ast.With, ast.Match, ast.Delete, ast.Global, ast.Nonlocal, ast.Assert, ast.Yield, ast.YieldFrom, ast.Await,
    ast.AsyncFunctionDef, ast.AsyncFor, ast.AsyncWith, ast.SetComp, ast.DictComp, ast.GeneratorExp, ast.NamedExpr,
    ast.Starred, ast.Div, ast.Import,
)


def tree_of(path):
    return ast.parse(path.read_text(encoding="utf-8"))


def own_names(tree):
    """Every name that the file itself binds: by a def, an import, a parameter or an assignment."""
    names = []
    for node in ast.walk(tree):
        if isinstance(node, (ast.FunctionDef, ast.ClassDef)):
            names.append(node.name)
        elif isinstance(node, ast.alias):
            names.append(node.asname or node.name)
        elif isinstance(node, ast.arg):
            names.append(node.arg)
        elif isinstance(node, ast.Name) and isinstance(node.ctx, ast.Store):
            names.append(node.id)
        elif isinstance(node, ast.ExceptHandler) and node.name:
            names.append(node.name)
    return names


class Form(unittest.TestCase):
    def test_only_plain_files_in_the_package(self):
        self.assertIn(PACKAGE / "__init__.py", FILES)
        for path in PACKAGE.rglob("*"):
            if "__pycache__" not in path.parts:
                self.assertRegex(path.name, r"\A(__init__|[a-z][a-z0-9_]*)\.py\Z")

    def test_signs_and_sizes(self):
        for path in FILES:
            with self.subTest(file=path.name):
                text = path.read_bytes().decode("utf-8")
                self.assertRegex(text, r"\A[ -~\n]*\Z")
                rows = text.split("\n")
                self.assertLessEqual(len(rows), 400)
                self.assertLessEqual(max(len(row) for row in rows), 120)

    def test_functions_are_short(self):
        for path in FILES:
            with self.subTest(file=path.name):
                for node in ast.walk(tree_of(path)):
                    if isinstance(node, ast.FunctionDef):
                        self.assertLessEqual(node.end_lineno - node.lineno + 1, 40, node.name)

    def test_imports_are_the_package_s_own(self):
        for path in FILES:
            with self.subTest(file=path.name):
                for node in ast.walk(tree_of(path)):
                    if isinstance(node, ast.ImportFrom):
                        self.assertEqual(node.level, 0)
                        self.assertRegex(node.module, r"\Awordfinder\.[a-z_]+\Z")

    def test_no_statement_outside_the_language(self):
        for path in FILES:
            with self.subTest(file=path.name):
                for node in ast.walk(tree_of(path)):
                    self.assertNotIsInstance(node, BANNED_NODES)

    def test_names_are_own_or_allowed(self):
        for path in FILES:
            with self.subTest(file=path.name):
                tree = tree_of(path)
                own = own_names(tree)
                for name in own:
                    if name not in ALLOWED_DUNDERS:
                        self.assertRegex(name, r"\A[A-Za-z][A-Za-z0-9_]*\Z")
                        self.assertFalse(hasattr(builtins, name), name)
                for node in ast.walk(tree):
                    if isinstance(node, ast.Name) and isinstance(node.ctx, ast.Load):
                        self.assertIn(node.id, own + ALLOWED_BUILTINS)

    def test_methods_are_own_or_allowed(self):
        own = [name for path in FILES for name in own_names(tree_of(path))]
        for path in FILES:
            with self.subTest(file=path.name):
                for node in ast.walk(tree_of(path)):
                    if isinstance(node, ast.Call) and isinstance(node.func, ast.Attribute):
                        self.assertIn(node.func.attr, own + ALLOWED_METHODS)

    def test_banned_words_stand_nowhere(self):
        for path in FILES:
            with self.subTest(file=path.name):
                for word in re.findall(r"\w+", path.read_text(encoding="utf-8")):
                    self.assertNotIn(word, BANNED_WORDS)
                    self.assertNotRegex(word, "dataclass|overload|contextmanager")


class Interface(unittest.TestCase):
    def test_names_and_arguments(self):
        interface = (
            (words.words_of, ["line"]),
            (words.are_near, ["ones", "others", "many"]),
            (words.are_in_row, ["rows"]),
            (merging.in_both, ["ones", "others"]),
            (merging.in_either, ["ones", "others"]),
            (merging.in_first, ["ones", "others"]),
        )
        for function, arguments in interface:
            self.assertEqual(list(inspect.signature(function).parameters), arguments)


if __name__ == "__main__":
    unittest.main()
