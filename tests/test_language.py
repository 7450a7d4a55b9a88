"""Those rules of the language that can be seen in a file: L1 to L3, L5, L7, L8, L10, L12, L14 to L18, L20, L25, L27."""

import ast
import builtins
import pathlib
import re
import unittest

FOLDER = pathlib.Path(__file__).resolve().parent.parent / "halfsetup"
BUILTINS = set(
    "len range enumerate zip min max sum abs sorted reversed int str bool bytes list tuple dict set isinstance ord"
    " repr any all divmod iter next super property staticmethod classmethod Exception ValueError TypeError KeyError"
    " IndexError LookupError ZeroDivisionError ArithmeticError OverflowError RuntimeError NotImplementedError"
    " AttributeError StopIteration NotImplemented".split())
METHODS = set(
    "append clear copy count endswith extend find get index insert isalnum isalpha isdigit islower isspace isupper"
    " items join keys ljust lower lstrip partition pop remove replace reverse rfind rjust rpartition rsplit rstrip"
    " setdefault split splitlines startswith strip update upper values zfill bit_length add discard".split())
SPECIAL = set(
    "__init__ __eq__ __len__ __contains__ __getitem__ __iter__ __enter__ __exit__ __repr__ __str__ __call__".split())
BARRED_WORDS = re.compile(
    r"\b(type|typing|typing_extensions|enum|Enum|IntEnum|StrEnum|Flag|IntFlag|Generic|Protocol|ABC|ABCMeta|namedtuple"
    r"|NamedTuple|TypedDict|TYPE_CHECKING|abstractmethod)\b|dataclass|overload|contextmanager")
BARRED_NAMES = set(
    "register mro elements open input law version_info with_traceback add_note eval exec compile getattr setattr"
    " hasattr delattr globals locals vars dir id type help exit quit os sys gc".split())


def sources():
    return {path.stem: path.read_text(encoding="utf-8") for path in sorted(FOLDER.glob("*.py"))}


def trees():
    return {name: ast.parse(text) for name, text in sources().items()}


def bound_names(tree):
    """All names that a file gives a meaning."""
    for node in ast.walk(tree):
        if isinstance(node, (ast.FunctionDef, ast.ClassDef)):
            yield node.name
        elif isinstance(node, ast.arg):
            yield node.arg
        elif isinstance(node, ast.Name) and isinstance(node.ctx, ast.Store):
            yield node.id
        elif isinstance(node, ast.Attribute) and isinstance(node.ctx, ast.Store):
            yield node.attr


def defined_at_top(tree):
    names = [node.name for node in tree.body if isinstance(node, (ast.FunctionDef, ast.ClassDef))]
    return names + [node.targets[0].id for node in tree.body if isinstance(node, ast.Assign)]


def imports_of(tree):
    return [node for node in ast.walk(tree) if isinstance(node, (ast.Import, ast.ImportFrom))]


class LanguageTest(unittest.TestCase):
    def test_the_folder_holds_plain_files_only(self):
        for path in FOLDER.iterdir():
            if path.name != "__pycache__":
                self.assertRegex(path.name, r"^(__init__|[a-z][a-z0-9_]*)\.py$")

    def test_characters_and_sizes(self):
        for name, text in sources().items():
            rows = text.split("\n")
            with self.subTest(name):
                self.assertRegex(text, r"\A[ -~\n]*\Z")
                self.assertLessEqual(len(rows), 399)
                self.assertLessEqual(max(len(row) for row in rows), 120)
                for node in ast.walk(ast.parse(text)):
                    if isinstance(node, ast.FunctionDef):
                        self.assertLessEqual(node.end_lineno - node.lineno + 1, 40, node.name)

    def test_imports_name_the_file_that_defines_the_name(self):
        files = trees()
        for name, tree in files.items():
            for node in imports_of(tree):
                with self.subTest((name, node.lineno)):
                    self.assertIn(node, tree.body)
                    self.assertIsInstance(node, ast.ImportFrom)
                    package, other = node.module.split(".")
                    self.assertEqual((package, node.level), ("halfsetup", 0))
                    for alias in node.names:
                        self.assertIn(alias.name, defined_at_top(files[other]))

    def test_no_two_files_import_from_each_other(self):
        left = {name: {node.module.split(".")[1] for node in imports_of(tree)} for name, tree in trees().items()}
        while left:
            free = [name for name in left if not left[name] & set(left)]
            self.assertTrue(free, left)
            left = {name: left[name] for name in left if name not in free}

    def test_module_level(self):
        for name, tree in trees().items():
            for node in tree.body:
                with self.subTest((name, node.lineno)):
                    allowed = (ast.ImportFrom, ast.FunctionDef, ast.ClassDef, ast.Assign, ast.Expr)
                    self.assertIsInstance(node, allowed)
                    if isinstance(node, ast.Expr):
                        self.assertIsInstance(node.value.value, str)
            top = defined_at_top(tree) + [alias.name for node in imports_of(tree) for alias in node.names]
            self.assertEqual(len(top), len(set(top)), name)

    def test_names(self):
        for name, tree in trees().items():
            for bound in bound_names(tree):
                with self.subTest((name, bound)):
                    self.assertTrue(not bound.startswith("_") or bound in SPECIAL)
                    self.assertNotIn(bound, BARRED_NAMES)
                    self.assertNotIn(bound, dir(builtins))

    def test_no_local_name_is_that_of_an_import_or_a_class(self):
        for name, tree in trees().items():
            top = {alias.name for node in imports_of(tree) for alias in node.names}
            top |= {node.name for node in tree.body if isinstance(node, ast.ClassDef)}
            for node in ast.walk(tree):
                if isinstance(node, ast.arg):
                    self.assertNotIn(node.arg, top, (name, node.lineno))
                elif isinstance(node, ast.Name) and isinstance(node.ctx, ast.Store):
                    self.assertNotIn(node.id, top, (name, node.lineno))

    def test_no_name_is_a_method_and_an_attribute(self):
        methods, attributes = set(), set()
        for tree in trees().values():
            for node in ast.walk(tree):
                if isinstance(node, ast.ClassDef):
                    methods |= {part.name for part in node.body if isinstance(part, ast.FunctionDef)}
                elif isinstance(node, ast.Attribute) and isinstance(node.ctx, ast.Store):
                    attributes.add(node.attr)
        self.assertFalse(methods & attributes)
        self.assertFalse((methods | attributes) & {"keys", "sort"})

    def test_no_generators(self):
        # The package has classes with __eq__ and operators, beside which lists are asked for.
        for name, tree in trees().items():
            for node in ast.walk(tree):
                with self.subTest((name, getattr(node, "lineno", 0))):
                    self.assertNotIsInstance(node, (ast.GeneratorExp, ast.Yield, ast.YieldFrom))

    def test_words_that_do_not_occur(self):
        for name, text in sources().items():
            with self.subTest(name):
                self.assertIsNone(BARRED_WORDS.search(text))

    def test_builtins_and_methods(self):
        files = trees()
        own = {bound for tree in files.values() for bound in bound_names(tree)}
        for name, tree in files.items():
            for node in ast.walk(tree):
                if isinstance(node, ast.Name) and node.id in dir(builtins):
                    self.assertIn(node.id, BUILTINS, (name, node.lineno))
                if isinstance(node, ast.Attribute) and node.attr != "__init__":
                    self.assertIn(node.attr, METHODS | own, (name, node.lineno))

    def test_expressions(self):
        for name, tree in trees().items():
            for node in ast.walk(tree):
                with self.subTest((name, getattr(node, "lineno", 0))):
                    self.assertNotIsInstance(node, (ast.Div, ast.Global, ast.AsyncFunctionDef, ast.Await))
                    if isinstance(node, ast.Constant):
                        self.assertNotIsInstance(node.value, (float, complex))
                        self.assertFalse(isinstance(node.value, str) and "%" in node.value)
                    if isinstance(node, ast.Compare):
                        for sign, right in zip(node.ops, node.comparators):
                            if isinstance(sign, (ast.Is, ast.IsNot)):
                                self.assertIn(ast.unparse(right), ("None", "True", "False"))


if __name__ == "__main__":
    unittest.main()
