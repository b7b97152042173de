"""The part of Python that the package keeps to, as far as a walk through its files can see it."""

import ast
import builtins
import pathlib
import re
import unittest

PACKAGE = pathlib.Path(__file__).resolve().parent.parent / "conesails"

KINDS = """Module Expr FunctionDef ClassDef arguments arg Return Assign If While For Break Continue Pass Raise Try
ExceptHandler Call ImportFrom alias Name Load Store Attribute Subscript Slice Constant List Tuple Dict Set ListComp
comprehension BinOp Add Sub Mult FloorDiv Mod Pow BitAnd BitOr BitXor Invert LShift RShift UnaryOp USub Not BoolOp And
Or Compare Eq NotEq Lt LtE Gt GtE In NotIn Is IsNot IfExp Lambda keyword JoinedStr FormattedValue""".split()

OWN_OF_PYTHON = """len range enumerate zip min max sum abs sorted reversed int str bool list tuple dict set isinstance
ord repr any all divmod Exception ValueError TypeError KeyError IndexError LookupError ZeroDivisionError
StopIteration""".split()

METHODS = """append clear copy count endswith extend find get index insert isalnum isalpha isdigit islower isspace
isupper items join keys ljust lower lstrip partition pop remove replace reverse rfind rjust rpartition rsplit rstrip
setdefault split splitlines startswith strip update upper values zfill bit_length""".split()

NOWHERE = """type typing typing_extensions enum Enum IntEnum StrEnum Flag IntFlag Generic Protocol ABC ABCMeta
namedtuple NamedTuple TypedDict TYPE_CHECKING abstractmethod""".split()


def files():
    return sorted(p for p in PACKAGE.rglob("*") if "__pycache__" not in p.parts)


def trees():
    return [(p.name, ast.parse(p.read_text(encoding="ascii"))) for p in files()]


def bound(tree):
    """Every name that the file gives a value to."""
    names = set()
    for node in ast.walk(tree):
        if isinstance(node, (ast.FunctionDef, ast.ClassDef)):
            names.add(node.name)
        elif isinstance(node, ast.arg):
            names.add(node.arg)
        elif isinstance(node, ast.alias):
            names.add(node.name)
        elif isinstance(node, ast.Name) and isinstance(node.ctx, ast.Store):
            names.add(node.id)
    return names


class FormTest(unittest.TestCase):
    def test_files(self):
        names = [p.name for p in files()]
        self.assertIn("__init__.py", names)
        self.assertIn("cone.py", names)
        for p in files():
            self.assertRegex(p.name, r"^([a-z][a-z0-9_]*|__init__)\.py$")
            self.assertFalse(p.name.startswith("test"))

    def test_signs_and_size(self):
        for p in files():
            text = p.read_bytes().decode("ascii")
            self.assertRegex(text, r"\A[ -~\n]*\Z", p.name)
            rows = text.split("\n")
            self.assertLessEqual(len(rows), 399, p.name)
            self.assertLessEqual(max(len(row) for row in rows), 120, p.name)
            for word in NOWHERE:
                self.assertIsNone(re.search(rf"\b{word}\b", text), (p.name, word))
            for word in ("dataclass", "overload", "contextmanager"):
                self.assertNotIn(word, text, p.name)

    def test_statements_and_expressions(self):
        for name, tree in trees():
            for node in ast.walk(tree):
                self.assertIn(type(node).__name__, KINDS, (name, getattr(node, "lineno", 0)))
                if isinstance(node, ast.FunctionDef):
                    self.assertLessEqual(node.end_lineno - node.lineno + 1, 40, (name, node.name))
                    args = node.args
                    self.assertFalse(node.decorator_list or args.vararg or args.kwarg or args.kwonlyargs)
                elif isinstance(node, ast.Assign):
                    self.assertEqual(len(node.targets), 1, (name, node.lineno))
                elif isinstance(node, (ast.For, ast.While)):
                    self.assertEqual(node.orelse, [], (name, node.lineno))
                elif isinstance(node, ast.Constant):
                    self.assertIn(type(node.value), (int, str, bool, type(None)), (name, node.lineno))

    def test_imports(self):
        for name, tree in trees():
            for node in ast.walk(tree):
                if isinstance(node, ast.ImportFrom):
                    self.assertIn(node, tree.body, name)
                    self.assertRegex(node.module, r"^conesails\.[a-z_]+$", name)
                    self.assertEqual(node.level, 0, name)
                    self.assertNotIn("*", [alias.name for alias in node.names], name)

    def test_names(self):
        for name, tree in trees():
            own = bound(tree)
            for word in own:
                self.assertTrue(re.match(r"^[A-Za-z]", word) or word == "__init__", (name, word))
                self.assertNotIn(word, dir(builtins), name)
            for node in ast.walk(tree):
                if isinstance(node, ast.Name):
                    self.assertTrue(node.id in own or node.id in OWN_OF_PYTHON, (name, node.id))

    def test_attributes(self):
        own = set()
        for _, tree in trees():
            own |= {node.name for node in ast.walk(tree) if isinstance(node, ast.FunctionDef)}
            own |= {node.attr for node in ast.walk(tree) if isinstance(node, ast.Attribute)
                    and isinstance(node.ctx, ast.Store)}
        for name, tree in trees():
            for node in ast.walk(tree):
                if isinstance(node, ast.Attribute):
                    self.assertTrue(node.attr in own or node.attr in METHODS, (name, node.attr))


if __name__ == "__main__":
    unittest.main()
