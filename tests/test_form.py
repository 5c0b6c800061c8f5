"""The form of the package's files, as far as it can be read off them: only values in, only values out."""

import ast
import builtins
import inspect
import pathlib
import re
import unittest

import wordfinder
from wordfinder import day, merging, words

PACKAGE = pathlib.Path(wordfinder.__file__).parent
FILES = sorted(PACKAGE.rglob("*.py"))

ALLOWED_BUILTINS = """
    len range enumerate zip min max sum abs sorted reversed int str bool list tuple dict set frozenset isinstance ord
    repr any all divmod Exception ValueError TypeError KeyError IndexError LookupError ZeroDivisionError
    ArithmeticError OverflowError RuntimeError NotImplementedError AttributeError StopIteration
""".split()

ALLOWED_METHODS = """
    append clear copy count endswith extend find get index insert isalnum isalpha isdigit islower isspace isupper
    items join keys ljust lower lstrip partition pop remove replace reverse rfind rjust rpartition rsplit rstrip
    setdefault split splitlines startswith strip update upper values zfill bit_length
""".split()

ALLOWED_DUNDERS = "__init__ __eq__ __repr__ __str__ __len__".split()

BANNED_WORDS = """
    type typing typing_extensions enum Enum IntEnum StrEnum Flag IntFlag Generic Protocol ABC ABCMeta namedtuple
    NamedTuple TypedDict TYPE_CHECKING abstractmethod
""".split()

BANNED_NODES = (
    ast.With, ast.Match, ast.Delete, ast.Global, ast.Nonlocal, ast.Assert, ast.Yield, ast.YieldFrom, ast.Await,
    ast.AsyncFunctionDef, ast.AsyncFor, ast.AsyncWith, ast.SetComp, ast.DictComp, ast.GeneratorExp, ast.NamedExpr,
    ast.Starred, ast.Div, ast.Import, ast.AnnAssign, ast.Lambda,
)

# What Python's own values have, and so no value of an object may be called, but for the ones that L26 frees.
OWN_ATTRIBUTES = {name for kind in (str, int, list, dict, set, bytes, tuple) for name in dir(kind)} | {"args"}
FREED_VALUES = "count index title find get join lower upper split strip copy add".split()


def tree_of(path):
    return ast.parse(path.read_text(encoding="utf-8"))


def own_names(tree):
    """Every name that the file itself binds: by a def, an import, a parameter or an assignment."""
    names = []
    for node in ast.walk(tree):
        if isinstance(node, (ast.FunctionDef, ast.ClassDef)):
            names.append(node.name)
        elif isinstance(node, ast.alias):
            names.append(node.asname or node.name)
        elif isinstance(node, ast.arg):
            names.append(node.arg)
        elif isinstance(node, ast.Name) and isinstance(node.ctx, ast.Store):
            names.append(node.id)
        elif isinstance(node, ast.ExceptHandler) and node.name:
            names.append(node.name)
    return names


def classes_of(tree):
    return [node for node in ast.walk(tree) if isinstance(node, ast.ClassDef)]


def method_names(tree):
    return [node.name for own in classes_of(tree) for node in own.body if isinstance(node, ast.FunctionDef)]


def value_names(tree):
    """Every name that a value of an object is given under."""
    return [node.attr for node in ast.walk(tree) if isinstance(node, ast.Attribute) and isinstance(node.ctx, ast.Store)]


def drawn_from(path):
    """The files of the package that the file imports from."""
    modules = [node.module for node in ast.walk(tree_of(path)) if isinstance(node, ast.ImportFrom)]
    return [PACKAGE.joinpath(*module.split(".")[1:]).with_suffix(".py") for module in modules]


def calls_of(tree, name):
    return [
        node for node in ast.walk(tree)
        if isinstance(node, ast.Call) and isinstance(node.func, ast.Name) and node.func.id == name
    ]


class Form(unittest.TestCase):
    def test_only_plain_files_in_the_package(self):
        self.assertIn(PACKAGE / "__init__.py", FILES)
        for path in PACKAGE.rglob("*"):
            if "__pycache__" not in path.parts:
                self.assertRegex(path.name, r"\A(__init__|[a-z][a-z0-9_]*)\.py\Z")

    def test_signs_and_sizes(self):
        for path in FILES:
            with self.subTest(file=path.name):
                text = path.read_bytes().decode("utf-8")
                self.assertRegex(text, r"\A[ -~\n]*\Z")
                rows = text.split("\n")
                self.assertLessEqual(len(rows), 400)
                self.assertLessEqual(max(len(row) for row in rows), 120)

    def test_functions_are_short(self):
        for path in FILES:
            with self.subTest(file=path.name):
                for node in ast.walk(tree_of(path)):
                    if isinstance(node, ast.FunctionDef):
                        self.assertLessEqual(node.end_lineno - node.lineno + 1, 40, node.name)

    def test_imports_are_the_package_s_own(self):
        for path in FILES:
            with self.subTest(file=path.name):
                for node in ast.walk(tree_of(path)):
                    if isinstance(node, ast.ImportFrom):
                        self.assertEqual(node.level, 0)
                        self.assertRegex(node.module, r"\Awordfinder\.[a-z_]+\Z")

    def test_no_statement_outside_the_language(self):
        for path in FILES:
            with self.subTest(file=path.name):
                for node in ast.walk(tree_of(path)):
                    self.assertNotIsInstance(node, BANNED_NODES)

    def test_names_are_own_or_allowed(self):
        for path in FILES:
            with self.subTest(file=path.name):
                tree = tree_of(path)
                own = own_names(tree)
                for name in own:
                    if name not in ALLOWED_DUNDERS:
                        self.assertRegex(name, r"\A[A-Za-z][A-Za-z0-9_]*\Z")
                        self.assertFalse(hasattr(builtins, name), name)
                for node in ast.walk(tree):
                    if isinstance(node, ast.Name) and isinstance(node.ctx, ast.Load):
                        self.assertIn(node.id, own + ALLOWED_BUILTINS)

    def test_methods_are_own_or_allowed(self):
        own = [name for path in FILES for name in method_names(tree_of(path))]
        for path in FILES:
            with self.subTest(file=path.name):
                for node in ast.walk(tree_of(path)):
                    if isinstance(node, ast.Call) and isinstance(node.func, ast.Attribute):
                        self.assertIn(node.func.attr, own + ALLOWED_METHODS)

    def test_no_two_files_draw_from_one_another(self):
        for path in FILES:
            seen, ahead = [], drawn_from(path)
            while ahead:
                source = ahead.pop()
                self.assertIn(source, FILES)
                self.assertNotEqual(source, path)
                if source not in seen:
                    seen.append(source)
                    ahead.extend(drawn_from(source))

    def test_the_top_of_a_file(self):
        for path in FILES:
            with self.subTest(file=path.name):
                tree = tree_of(path)
                self.assertTrue(ast.get_docstring(tree))
                names = []
                for node in tree.body[1:]:
                    self.assertIsInstance(node, (ast.ImportFrom, ast.FunctionDef, ast.ClassDef))
                    if isinstance(node, ast.ImportFrom):
                        names.extend(alias.name for alias in node.names)
                    else:
                        names.append(node.name)
                self.assertEqual(len(names), len(set(names)))

    def test_functions_are_plain(self):
        for path in FILES:
            with self.subTest(file=path.name):
                for node in ast.walk(tree_of(path)):
                    if isinstance(node, ast.FunctionDef):
                        self.assertEqual(node.decorator_list, [])
                        self.assertEqual(node.args.kwonlyargs + node.args.posonlyargs, [])
                        self.assertIsNone(node.args.vararg or node.args.kwarg)
                        self.assertIsNone(node.returns)
                    if isinstance(node, ast.Assign):
                        self.assertEqual(len(node.targets), 1)

    def test_classes_are_plain(self):
        for path in FILES:
            with self.subTest(file=path.name):
                tree = tree_of(path)
                for own in classes_of(tree):
                    self.assertIn(own, tree.body)
                    self.assertEqual(own.decorator_list + own.bases + own.keywords, [])
                    self.assertTrue(ast.get_docstring(own))
                    for node in own.body[1:]:
                        self.assertIsInstance(node, ast.FunctionDef)

    def test_methods_and_values_have_names_of_their_own(self):
        methods = [name for path in FILES for name in method_names(tree_of(path))]
        values = [name for path in FILES for name in value_names(tree_of(path))]
        self.assertEqual(set(methods) & set(values), set())
        for name in methods:
            if name not in ALLOWED_DUNDERS + ALLOWED_METHODS + ["add", "discard"]:
                self.assertNotIn(name, OWN_ATTRIBUTES)
        for name in values:
            if name not in FREED_VALUES:
                self.assertNotIn(name, OWN_ATTRIBUTES)

    def test_sets_are_not_kept(self):
        for path in FILES:
            with self.subTest(file=path.name):
                tree = tree_of(path)
                within = []
                for node in calls_of(tree, "sorted") + calls_of(tree, "len"):
                    within.extend(ast.walk(node))
                for node in calls_of(tree, "set"):
                    self.assertIn(node, within)

    def test_is_stands_beside_plain_values_alone(self):
        for path in FILES:
            with self.subTest(file=path.name):
                for node in ast.walk(tree_of(path)):
                    if isinstance(node, ast.Compare) and isinstance(node.ops[0], (ast.Is, ast.IsNot)):
                        self.assertIn(getattr(node.comparators[0], "value", "no plain value"), (None, True, False))

    def test_banned_words_stand_nowhere(self):
        for path in FILES:
            with self.subTest(file=path.name):
                for word in re.findall(r"\w+", path.read_text(encoding="utf-8")):
                    self.assertNotIn(word, BANNED_WORDS)
                    self.assertNotRegex(word, "dataclass|overload|contextmanager")


class Interface(unittest.TestCase):
    def test_names_and_arguments(self):
        interface = (
            (words.words_of, ["line"]),
            (words.are_near, ["ones", "others", "many"]),
            (words.are_in_row, ["rows"]),
            (merging.in_both, ["ones", "others"]),
            (merging.in_either, ["ones", "others"]),
            (merging.in_first, ["ones", "others"]),
            (day.answers, ["deeds"]),
            (day.index_behind, ["deeds"]),
        )
        for function, arguments in interface:
            self.assertEqual(list(inspect.signature(function).parameters), arguments)


if __name__ == "__main__":
    unittest.main()
