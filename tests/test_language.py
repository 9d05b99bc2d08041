"""The package keeps within the written subset of the language, as far as a few plain checks can see."""

import ast
import pathlib
import re
import unittest

FOLDER = pathlib.Path(__file__).resolve().parent.parent / "sidework"
FILES = sorted(FOLDER.glob("*.py"))
BARRED_WORDS = (
    "type", "typing", "typing_extensions", "enum", "Enum", "IntEnum", "StrEnum", "Flag", "IntFlag", "Generic",
    "Protocol", "ABC", "ABCMeta", "namedtuple", "NamedTuple", "TypedDict", "TYPE_CHECKING", "abstractmethod")
BARRED_NAMES = (
    "register", "mro", "elements", "open", "input", "version_info", "with_traceback", "add_note", "eval", "exec",
    "getattr", "setattr", "hasattr", "delattr", "globals", "locals", "vars", "dir", "help", "id", "exit", "quit", "os",
    "compile", "print", "map", "filter", "iter", "next", "hash", "float", "round", "pow", "chr", "format")
ALLOWED_DUNDERS = (
    "__init__", "__eq__", "__repr__", "__str__", "__len__", "__enter__", "__exit__", "__call__", "__iter__")
BARRED_NODES = (ast.Global, ast.AsyncFunctionDef, ast.AsyncFor, ast.AsyncWith, ast.Await, ast.Import, ast.Div)


def names_in(tree):
    """All names that are bound, read or defined, with those of attributes, arguments and keywords."""
    for node in ast.walk(tree):
        if isinstance(node, ast.Name):
            yield node.id
        elif isinstance(node, ast.Attribute):
            yield node.attr
        elif isinstance(node, (ast.FunctionDef, ast.ClassDef)):
            yield node.name
        elif isinstance(node, (ast.arg, ast.keyword)) and node.arg is not None:
            yield node.arg


class TestLanguage(unittest.TestCase):
    def each(self):
        self.assertIn(FOLDER / "__init__.py", FILES)
        for path in FILES:
            text = path.read_text(encoding="utf-8")
            with self.subTest(file=path.name):
                yield text, ast.parse(text)

    def test_the_folder_holds_plain_files_only(self):
        for path in FOLDER.iterdir():
            if path.name != "__pycache__":
                self.assertRegex(path.name, r"\A[a-z0-9_]+\.py\Z")

    def test_sizes_and_signs(self):
        for text, tree in self.each():
            rows = text.split("\n")
            self.assertLessEqual(len(rows), 401)
            self.assertLessEqual(max(len(row) for row in rows), 120)
            self.assertRegex(text, r"\A[ -~\n]*\Z")
            for node in ast.walk(tree):
                if isinstance(node, ast.FunctionDef):
                    self.assertLessEqual(node.end_lineno - node.lineno + 1, 40)

    def test_words_and_names(self):
        for text, tree in self.each():
            found = set(re.findall(r"\w+", text))
            self.assertFalse(found & set(BARRED_WORDS))
            for name in names_in(tree):
                self.assertNotIn(name, BARRED_NAMES)
                self.assertTrue(name in ALLOWED_DUNDERS or not name.startswith("_"), name)

    def test_imports_and_statements(self):
        for text, tree in self.each():
            for node in ast.walk(tree):
                self.assertNotIsInstance(node, BARRED_NODES)
                if isinstance(node, ast.ImportFrom):
                    self.assertEqual(node.level, 0)
                    self.assertRegex(node.module, r"\Asidework\.")
                if isinstance(node, ast.Constant):
                    self.assertNotIsInstance(node.value, (float, complex))
                    self.assertFalse(isinstance(node.value, str) and "%" in node.value)

    def test_no_name_is_a_method_here_and_an_attribute_there(self):
        methods, attributes = set(), set()
        for text, tree in self.each():
            for node in ast.walk(tree):
                if isinstance(node, ast.ClassDef):
                    methods |= {inner.name for inner in node.body if isinstance(inner, ast.FunctionDef)}
                if isinstance(node, ast.Attribute) and isinstance(node.ctx, ast.Store):
                    attributes.add(node.attr)
        self.assertFalse(methods & attributes)


if __name__ == "__main__":
    unittest.main()
