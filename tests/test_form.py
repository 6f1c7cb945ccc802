"""The package's files keep to the small part of Python that is asked for.

This looks at what can be told file by file; it is not each of the rules.
"""

import ast
import pathlib
import re
import unittest

PACKAGE = pathlib.Path(__file__).resolve().parent.parent / "axiomparts"

NODES = set("""
    Module Expr Constant ImportFrom alias FunctionDef arguments arg ClassDef Assign If While For Return Break Continue
    Pass Raise Name Load Store Attribute Call Subscript Slice Tuple List Dict ListComp comprehension IfExp
    BinOp Add Sub Mult FloorDiv Mod Pow BitAnd BitOr BitXor LShift RShift UnaryOp USub Not Invert BoolOp And Or
    Compare Eq NotEq Lt LtE Gt GtE In NotIn Is IsNot JoinedStr FormattedValue
""".split())

OWN_OF_PYTHON = set("""
    len range enumerate zip min max sum abs sorted reversed int str bool list tuple dict isinstance any all divmod
    Exception ValueError KeyError IndexError True False None
""".split())

METHODS = set("""
    append clear copy count extend find get index insert items join keys pop remove replace reverse setdefault update
    values bit_length
""".split())

WORDS = set("""
    type typing typing_extensions enum Enum IntEnum StrEnum Flag IntFlag Generic Protocol ABC ABCMeta namedtuple
    NamedTuple TypedDict TYPE_CHECKING abstractmethod
""".split())


def files():
    return sorted(PACKAGE.rglob("*.py"))


def bound_names(tree):
    """The names that a file binds, by an import, a def, a parameter or a value."""
    found = set()
    for node in ast.walk(tree):
        if isinstance(node, (ast.FunctionDef, ast.ClassDef)):
            found.add(node.name)
        elif isinstance(node, ast.arg):
            found.add(node.arg)
        elif isinstance(node, ast.alias):
            found.add(node.name)
        elif isinstance(node, ast.Name) and isinstance(node.ctx, ast.Store):
            found.add(node.id)
    return found


def own_methods():
    """The names of all methods of the package's classes."""
    found = set()
    for path in files():
        for node in ast.walk(ast.parse(path.read_text())):
            if isinstance(node, ast.ClassDef):
                found |= {part.name for part in node.body if isinstance(part, ast.FunctionDef)}
    return found


class Form(unittest.TestCase):
    def test_the_files(self):
        names = {path.name for path in PACKAGE.iterdir() if path.name != "__pycache__"}
        self.assertTrue({"__init__.py", "desk.py"} <= names)
        for name in names:
            self.assertRegex(name, r"^[a-z][a-z0-9_]*\.py$|^__init__\.py$")

    def test_signs_words_and_sizes(self):
        for path in files():
            text = path.read_text(encoding="ascii")
            rows = text.split("\n")
            with self.subTest(file=path.name):
                self.assertLessEqual(len(rows), 399)
                self.assertLessEqual(max(len(row) for row in rows), 120)
                self.assertRegex(text, r"^[ -~\n]*$")
                self.assertEqual(set(re.findall(r"\w+", text)) & WORDS, set())
                self.assertNotRegex(text, "dataclass|overload|contextmanager")

    def test_functions_are_small_and_plain(self):
        for path in files():
            for node in ast.walk(ast.parse(path.read_text())):
                if isinstance(node, ast.FunctionDef):
                    with self.subTest(file=path.name, function=node.name):
                        self.assertLessEqual(node.end_lineno - node.lineno + 1, 40)
                        self.assertEqual(node.decorator_list, [])
                        self.assertIsNone(node.args.vararg)
                        self.assertIsNone(node.args.kwarg)
                        self.assertEqual(node.args.kwonlyargs + node.args.posonlyargs, [])

    def test_only_the_allowed_forms(self):
        for path in files():
            for node in ast.walk(ast.parse(path.read_text())):
                with self.subTest(file=path.name, row=getattr(node, "lineno", 0)):
                    self.assertIn(node.__class__.__name__, NODES)
                    if isinstance(node, ast.ImportFrom):
                        self.assertEqual(node.level, 0)
                        self.assertTrue(node.module.startswith("axiomparts."))
                    if isinstance(node, ast.Assign):
                        self.assertEqual(len(node.targets), 1)
                    if isinstance(node, ast.Constant):
                        self.assertIsInstance(node.value, (int, str, bool, None.__class__))

    def test_no_call_is_left_out(self):
        for path in files():
            self.assertNotIn("NotImplementedError", path.read_text(), path.name)

    def test_no_name_is_a_method_and_a_value(self):
        values = set()
        for path in files():
            for node in ast.walk(ast.parse(path.read_text())):
                if isinstance(node, ast.Attribute) and isinstance(node.ctx, ast.Store):
                    values.add(node.attr)
        self.assertEqual(values & (own_methods() | METHODS), set())

    def test_only_known_names(self):
        for path in files():
            tree = ast.parse(path.read_text())
            bound = bound_names(tree)
            self.assertEqual(bound & OWN_OF_PYTHON, set(), path.name)
            for node in ast.walk(tree):
                if isinstance(node, ast.Name):
                    self.assertIn(node.id, bound | OWN_OF_PYTHON, path.name)
                    self.assertRegex(node.id, r"^[A-Za-z]\w*$")
                if isinstance(node, ast.Call) and isinstance(node.func, ast.Attribute):
                    self.assertIn(node.func.attr, METHODS | own_methods(), path.name)


if __name__ == "__main__":
    unittest.main()
