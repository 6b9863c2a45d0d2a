"""The package keeps to the part of Python that it's written in: the rules that a reading of its files can tell."""

import ast
import builtins
import pathlib
import re
import unittest

import watchedrooms

FOLDER = pathlib.Path(watchedrooms.__file__).parent

# What L3 to L7 allow, and no other node.
NODES = """Module FunctionDef ClassDef arguments arg Import ImportFrom alias Return Assign AugAssign For While If Raise
Try ExceptHandler Expr Pass Break Continue BoolOp BinOp UnaryOp Lambda IfExp Dict Set ListComp comprehension Compare
Call keyword FormattedValue JoinedStr Constant Attribute Subscript Name List Tuple Slice Load Store And Or Add Sub Mult
Mod Pow LShift RShift BitOr BitXor BitAnd FloorDiv Invert Not UAdd USub Eq NotEq Lt LtE Gt GtE Is IsNot In
NotIn""".split()

BUILT_IN = """len range enumerate zip min max sum abs sorted reversed int str bool list tuple dict set frozenset isinstance
ord repr any all divmod Exception ValueError TypeError KeyError IndexError LookupError ZeroDivisionError ArithmeticError
OverflowError RuntimeError NotImplementedError AttributeError StopIteration""".split()

METHODS = """append clear copy count endswith extend find get index insert isalnum isalpha isdigit islower isspace isupper
items join keys ljust lower lstrip partition pop remove replace reverse rfind rjust rpartition rsplit rstrip setdefault
split splitlines startswith strip update upper values zfill bit_length""".split()

WORDS = """type typing typing_extensions enum Enum IntEnum StrEnum Flag IntFlag Generic Protocol ABC ABCMeta namedtuple
NamedTuple TypedDict TYPE_CHECKING abstractmethod""".split()
WITHIN = ("dataclass", "overload", "contextmanager")


def files():
    return sorted(path for path in FOLDER.rglob("*") if "__pycache__" not in path.parts and path.is_file())


def bound_at_top(tree):
    names = []
    for node in tree.body:
        if isinstance(node, (ast.FunctionDef, ast.ClassDef)):
            names.append(node.name)
        if isinstance(node, ast.Assign):
            names += [target.id for target in node.targets]
    return names


class KeepsToTheLanguage(unittest.TestCase):
    def each_tree(self):
        for path in files():
            with self.subTest(path.name):
                yield path, ast.parse(path.read_text(encoding="ascii"))

    def test_files(self):
        self.assertIn("__init__.py", [path.name for path in files()])
        for path in files():
            self.assertRegex(path.name, r"\A([a-z][a-z0-9_]*|__init__)\.py\Z")
            self.assertNotRegex(path.name, r"\A(test|site|conftest|usercustomize)")

    def test_signs_words_and_lengths(self):
        for path in files():
            text = path.read_bytes().decode("ascii")
            self.assertRegex(text, r"\A[ -~\n]*\Z")
            rows = text.split("\n")
            self.assertLessEqual(len(rows), 400)
            self.assertLessEqual(max(len(row) for row in rows), 120)
            self.assertEqual([word for word in re.findall(r"\w+", text) if word in WORDS], [])
            self.assertEqual([word for word in WITHIN if word in text], [])

    def test_functions_are_short_and_plain(self):
        for path, tree in self.each_tree():
            for node in ast.walk(tree):
                if isinstance(node, ast.FunctionDef):
                    self.assertLessEqual(node.end_lineno - node.lineno + 1, 40, node.name)
                    self.assertEqual(node.decorator_list, [])
                    asked = node.args
                    self.assertEqual((asked.vararg, asked.kwarg, asked.kwonlyargs, asked.posonlyargs),
                                     (None, None, [], []), node.name)

    def test_statements_and_expressions(self):
        for path, tree in self.each_tree():
            for node in ast.walk(tree):
                self.assertIn(node.__class__.__name__, NODES)
                if isinstance(node, ast.Constant):
                    self.assertIsInstance(node.value, (int, str, bool, type(None)))
                if isinstance(node, (ast.For, ast.While)):
                    self.assertEqual(node.orelse, [])
                if isinstance(node, ast.Assign):
                    self.assertEqual(len(node.targets), 1)

    def test_names(self):
        for path, tree in self.each_tree():
            top = bound_at_top(tree)
            self.assertEqual(len(top), len(set(top)))
            for node in ast.walk(tree):
                if isinstance(node, ast.Name) and isinstance(node.ctx, ast.Load):
                    self.assertTrue(node.id in BUILT_IN or not hasattr(builtins, node.id), node.id)
                name = None
                if isinstance(node, ast.Name) and isinstance(node.ctx, ast.Store):
                    name = node.id
                if isinstance(node, ast.arg):
                    name = node.arg
                if name is not None:
                    self.assertRegex(name, r"\A[A-Za-z][A-Za-z0-9_]*\Z")
                    self.assertFalse(hasattr(builtins, name), name)

    def test_methods(self):
        for path, tree in self.each_tree():
            own = [node.name for node in ast.walk(tree) if isinstance(node, ast.FunctionDef)]
            for node in ast.walk(tree):
                if isinstance(node, ast.Call) and isinstance(node.func, ast.Attribute):
                    self.assertIn(node.func.attr, METHODS + own)


if __name__ == "__main__":
    unittest.main()
