"""Rules of LANGUAGE.md that can be seen in the text of a file, for every file of the package."""

import ast
import builtins
import pathlib
import re
import unittest

PACKAGE = pathlib.Path(__file__).resolve().parent.parent / "crewpay"
FILES = sorted(path for path in PACKAGE.rglob("*") if path.is_file() and "__pycache__" not in path.parts)
# L17: words that stand nowhere in a file.
WORDS = (
    "type typing typing_extensions enum Enum IntEnum StrEnum Flag IntFlag Generic Protocol ABC ABCMeta "
    "namedtuple NamedTuple TypedDict TYPE_CHECKING abstractmethod"
).split()
PARTS = ("dataclass", "overload", "contextmanager")
# L6, L7, L9: what no file of this package has; L2 allows `sys` to a `__main__.py` alone.
NODES = (ast.Global, ast.AsyncFunctionDef, ast.Div, ast.Import)
# L8: the builtins of values, without those that only a rule of its own allows; L27 takes chr away.
BUILTINS = (
    "len range enumerate zip min max sum abs sorted reversed int str bool bytes list tuple dict set frozenset isinstance "
    "ord repr any all divmod Exception ValueError TypeError KeyError IndexError LookupError ZeroDivisionError "
    "ArithmeticError OverflowError RuntimeError NotImplementedError AttributeError StopIteration NotImplemented"
).split()
# L25: the methods of builtin values that this package uses.
METHODS = "append get join partition pop split"
# L3: what may stand at module level.
AT_MODULE_LEVEL = (ast.Expr, ast.ImportFrom, ast.FunctionDef, ast.ClassDef, ast.Assign)


def bound_at_module_level(tree):
    """The names that a file binds outside of functions and classes, as often as it does."""
    names = []
    for node in tree.body:
        if isinstance(node, ast.ImportFrom):
            names += [name.asname or name.name for name in node.names]
        elif isinstance(node, (ast.FunctionDef, ast.ClassDef)):
            names.append(node.name)
        elif isinstance(node, ast.Assign):
            names += [target.id for target in node.targets]
    return names


def bound_within(tree):
    """The names of parameters and of local variables."""
    names = {node.arg for node in ast.walk(tree) if isinstance(node, ast.arg)}
    inner = [node for node in tree.body if isinstance(node, (ast.FunctionDef, ast.ClassDef))]
    for node in [below for part in inner for below in ast.walk(part)]:
        if isinstance(node, ast.Name) and isinstance(node.ctx, ast.Store):
            names.add(node.id)
    return names


class Language(unittest.TestCase):
    def each(self):
        self.assertIn(PACKAGE / "__init__.py", FILES)
        return [(path.name, path.read_bytes().decode("utf-8")) for path in FILES]

    def test_l1_l14_names_of_files(self):
        for name, text in self.each():
            with self.subTest(name):
                self.assertRegex(name, r"\A([a-z][a-z0-9_]*|__init__|__main__)\.py\Z")
        self.assertLessEqual(len(FILES), 100)

    def test_l10_size(self):
        for name, text in self.each():
            with self.subTest(name):
                lines = text.splitlines()
                self.assertLessEqual(len(lines), 400)
                self.assertLessEqual(max(len(line) for line in lines), 120)
                for node in ast.walk(ast.parse(text)):
                    if isinstance(node, ast.FunctionDef):
                        self.assertLessEqual(node.end_lineno - node.lineno + 1, 40, node.name)

    def test_l14_l27_signs(self):
        for name, text in self.each():
            with self.subTest(name):
                self.assertEqual(set(re.findall(r"[^ -~\n]", text)), set())
                for node in ast.walk(ast.parse(text)):
                    if isinstance(node, ast.Constant) and isinstance(node.value, str):
                        self.assertNotIn("%", node.value)

    def test_l17_words(self):
        for name, text in self.each():
            with self.subTest(name):
                self.assertEqual(set(re.findall(r"\w+", text)) & set(WORDS), set())
                self.assertEqual([part for part in PARTS if part in text], [])

    def test_l2_l16_imports(self):
        for name, text in self.each():
            with self.subTest(name):
                for node in ast.walk(ast.parse(text)):
                    if isinstance(node, ast.ImportFrom):
                        self.assertEqual(node.level, 0)
                        self.assertRegex(node.module, r"\A(crewpay\.\w+|__future__)\Z")

    def test_l6_l7_statements_and_values(self):
        for name, text in self.each():
            with self.subTest(name):
                for node in ast.walk(ast.parse(text)):
                    self.assertNotIsInstance(node, NODES)
                    self.assertFalse(isinstance(node, ast.Constant) and isinstance(node.value, (float, complex)))

    def test_l3_module_level(self):
        for name, text in self.each():
            with self.subTest(name):
                for node in ast.parse(text).body:
                    self.assertIsInstance(node, AT_MODULE_LEVEL)
                    self.assertTrue(not isinstance(node, ast.Expr) or isinstance(node.value, ast.Constant))

    def test_l7_generators(self):
        # Beside a class with `__eq__` any, all and their like take lists.
        for name, text in self.each():
            with self.subTest(name):
                for node in ast.walk(ast.parse(text)):
                    self.assertNotIsInstance(node, ast.GeneratorExp)

    def test_l8_builtins(self):
        for name, text in self.each():
            with self.subTest(name):
                used = {node.id for node in ast.walk(ast.parse(text)) if isinstance(node, ast.Name)}
                self.assertEqual((used & set(dir(builtins))) - set(BUILTINS), set())

    def test_l15_one_binding(self):
        for name, text in self.each():
            with self.subTest(name):
                tree = ast.parse(text)
                names = bound_at_module_level(tree)
                self.assertEqual(len(names), len(set(names)))
                self.assertEqual(set(names) & set(dir(builtins)), set())
                self.assertEqual(bound_within(tree) & (set(names) | set(dir(builtins))), set())

    def test_l16_no_two_files_import_from_each_other(self):
        above = {}
        for name, text in self.each():
            nodes = [node for node in ast.walk(ast.parse(text)) if isinstance(node, ast.ImportFrom)]
            above[name] = {node.module.partition(".")[2] + ".py" for node in nodes if node.module != "__future__"}
        while above:
            first = [name for name in above if not above[name] & set(above)]
            self.assertNotEqual(first, [], above)
            above = {name: above[name] for name in above if name not in first}

    def test_l5_l18_classes(self):
        methods, attributes = [], set()
        for name, text in self.each():
            for node in ast.walk(ast.parse(text)):
                if isinstance(node, ast.ClassDef):
                    self.assertEqual(node.decorator_list, [])
                    self.assertTrue(all(isinstance(part, (ast.FunctionDef, ast.Expr)) for part in node.body))
                    methods += [part.name for part in node.body if isinstance(part, ast.FunctionDef)]
                if isinstance(node, ast.Attribute) and isinstance(node.ctx, ast.Store):
                    self.assertEqual(node.value.id, "self")
                    attributes.add(node.attr)
        self.assertEqual(attributes & set(methods), set())
        dunders = {method for method in methods if method.startswith("__")}
        self.assertLessEqual(dunders, {"__init__", "__eq__", "__len__"})

    def test_l25_methods(self):
        own = {"enter", "strike", "back", "send", "pages", "left", "room", "off", "turn_to", "__init__"}
        for name, text in self.each():
            with self.subTest(name):
                calls = [node for node in ast.walk(ast.parse(text)) if isinstance(node, ast.Call)]
                for node in calls:
                    if isinstance(node.func, ast.Attribute):
                        self.assertIn(node.func.attr, METHODS.split() + sorted(own))
                        self.assertEqual(node.keywords, [])
                    elif isinstance(node.func, ast.Name) and node.func.id in BUILTINS:
                        self.assertLessEqual({word.arg for word in node.keywords}, {"key", "default"})
                    else:
                        self.assertIsInstance(node.func, ast.Name)

    def test_l19_no_errors_of_pythons_own_are_caught(self):
        for name, text in self.each():
            with self.subTest(name):
                self.assertFalse([node for node in ast.walk(ast.parse(text)) if isinstance(node, ast.Try)])

    def test_l24_sets_are_used_on_the_spot(self):
        for name, text in self.each():
            tree = ast.parse(text)
            within = [part for node in ast.walk(tree) if isinstance(node, ast.Call) for part in node.args
                      if isinstance(node.func, ast.Name) and node.func.id in ("sorted", "len")]
            sets = [node for node in ast.walk(tree) if isinstance(node, (ast.Set, ast.SetComp))]
            sets += [node for node in ast.walk(tree) if isinstance(node, ast.Call) and getattr(node.func, "id", "") == "set"]
            with self.subTest(name):
                self.assertEqual([node.lineno for node in sets if node not in within], [])

    def test_l20_is(self):
        for name, text in self.each():
            with self.subTest(name):
                for node in ast.walk(ast.parse(text)):
                    if isinstance(node, ast.Compare) and isinstance(node.ops[0], (ast.Is, ast.IsNot)):
                        self.assertIn(repr(getattr(node.comparators[0], "value", 0)), ("None", "True", "False"))

    def test_l12_names(self):
        for name, text in self.each():
            with self.subTest(name):
                for node in ast.walk(ast.parse(text)):
                    word = getattr(node, "id", None) or getattr(node, "arg", None) or getattr(node, "attr", None)
                    if word is not None and not re.fullmatch("__[a-z]+__", word):
                        self.assertFalse(word.startswith("_"), word)


if __name__ == "__main__":
    unittest.main()
