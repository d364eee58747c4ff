"""Rules of LANGUAGE.md that can be seen in the text of a file, for every file of the package."""

import ast
import pathlib
import re
import unittest

PACKAGE = pathlib.Path(__file__).resolve().parent.parent / "crewpay"
FILES = sorted(path for path in PACKAGE.rglob("*") if path.is_file() and "__pycache__" not in path.parts)
# L17: words that stand nowhere in a file.
WORDS = (
    "type typing typing_extensions enum Enum IntEnum StrEnum Flag IntFlag Generic Protocol ABC ABCMeta "
    "namedtuple NamedTuple TypedDict TYPE_CHECKING abstractmethod"
).split()
PARTS = ("dataclass", "overload", "contextmanager")
# L6, L7, L9: what no file of this package has; L2 allows `sys` to a `__main__.py` alone.
NODES = (ast.Global, ast.AsyncFunctionDef, ast.Div, ast.Import)


class Language(unittest.TestCase):
    def each(self):
        self.assertIn(PACKAGE / "__init__.py", FILES)
        return [(path.name, path.read_bytes().decode("utf-8")) for path in FILES]

    def test_l1_l14_names_of_files(self):
        for name, text in self.each():
            with self.subTest(name):
                self.assertRegex(name, r"\A([a-z][a-z0-9_]*|__init__|__main__)\.py\Z")
        self.assertLessEqual(len(FILES), 100)

    def test_l10_size(self):
        for name, text in self.each():
            with self.subTest(name):
                lines = text.splitlines()
                self.assertLessEqual(len(lines), 400)
                self.assertLessEqual(max(len(line) for line in lines), 120)
                for node in ast.walk(ast.parse(text)):
                    if isinstance(node, ast.FunctionDef):
                        self.assertLessEqual(node.end_lineno - node.lineno + 1, 40, node.name)

    def test_l14_l27_signs(self):
        for name, text in self.each():
            with self.subTest(name):
                self.assertEqual(set(re.findall(r"[^ -~\n]", text)), set())
                for node in ast.walk(ast.parse(text)):
                    if isinstance(node, ast.Constant) and isinstance(node.value, str):
                        self.assertNotIn("%", node.value)

    def test_l17_words(self):
        for name, text in self.each():
            with self.subTest(name):
                self.assertEqual(set(re.findall(r"\w+", text)) & set(WORDS), set())
                self.assertEqual([part for part in PARTS if part in text], [])

    def test_l2_l16_imports(self):
        for name, text in self.each():
            with self.subTest(name):
                for node in ast.walk(ast.parse(text)):
                    if isinstance(node, ast.ImportFrom):
                        self.assertEqual(node.level, 0)
                        self.assertRegex(node.module, r"\A(crewpay\.\w+|__future__)\Z")

    def test_l6_l7_statements_and_values(self):
        for name, text in self.each():
            with self.subTest(name):
                for node in ast.walk(ast.parse(text)):
                    self.assertNotIsInstance(node, NODES)
                    self.assertFalse(isinstance(node, ast.Constant) and isinstance(node.value, (float, complex)))

    def test_l12_names(self):
        for name, text in self.each():
            with self.subTest(name):
                for node in ast.walk(ast.parse(text)):
                    word = getattr(node, "id", None) or getattr(node, "arg", None) or getattr(node, "attr", None)
                    if word is not None and not re.fullmatch("__[a-z]+__", word):
                        self.assertFalse(word.startswith("_"), word)


if __name__ == "__main__":
    unittest.main()
