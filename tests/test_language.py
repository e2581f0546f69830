"""The package keeps to the small part of Python that it is to be written in; the commonest slips are seen here."""

import ast
import builtins
import pathlib
import re
import unittest

PACKAGE = pathlib.Path(__file__).resolve().parent.parent / "changenet"
FILES = sorted(PACKAGE.glob("*.py"))

NODES = set("""
    Module FunctionDef ClassDef arguments arg Assign AugAssign If While For Return Break Continue Pass Raise Expr
    Constant Name Load Store Attribute Subscript Slice Call keyword List Tuple Dict ListComp comprehension IfExp Lambda
    BinOp Add Sub Mult FloorDiv Mod Pow BitAnd BitOr BitXor LShift RShift UnaryOp USub Not Invert BoolOp And Or
    Compare Eq NotEq Lt LtE Gt GtE In NotIn Is IsNot Try ExceptHandler
""".split())
BUILTINS = set("""
    len range enumerate zip min max sum abs sorted reversed int str bool list tuple dict set frozenset isinstance ord
    repr any all divmod KeyError ZeroDivisionError StopIteration ValueError LookupError IndexError Exception
""".split())
METHODS = set("""
    append clear copy count endswith extend find get index insert isalnum isalpha isdigit islower isspace isupper items
    join keys ljust lower lstrip partition pop remove replace reverse rfind rjust rpartition rsplit rstrip setdefault
    split splitlines startswith strip update upper values zfill bit_length
""".split())
WORDS = set("""
    type typing typing_extensions enum Enum IntEnum StrEnum Flag IntFlag Generic Protocol ABC ABCMeta namedtuple
    NamedTuple TypedDict TYPE_CHECKING abstractmethod
""".split())


class Language(unittest.TestCase):
    def each_tree(self):
        for path in FILES:
            yield path, ast.parse(path.read_text(encoding="ascii"))

    def test_only_plain_files_lie_in_the_package(self):
        names = [path.name for path in PACKAGE.iterdir() if path.name != "__pycache__"]
        self.assertEqual(sorted(names), ["__init__.py", "nodes.py"])

    def test_sizes_and_signs(self):
        for path in FILES:
            text = path.read_text(encoding="ascii")
            self.assertIsNone(re.search(r"[^ -~\n]", text), path)
            lines = text.split("\n")
            self.assertLessEqual(len(lines), 400, path)
            self.assertLessEqual(max(len(line) for line in lines), 120, path)

    def test_functions_are_short(self):
        for path, tree in self.each_tree():
            for node in ast.walk(tree):
                if isinstance(node, ast.FunctionDef):
                    self.assertLessEqual(node.end_lineno - node.lineno + 1, 40, node.name)

    def test_nothing_is_imported_and_nothing_else_is_used(self):
        for path, tree in self.each_tree():
            for node in ast.walk(tree):
                kind = node.__class__.__name__
                self.assertIn(kind, NODES, f"{path.name}:{getattr(node, 'lineno', 0)}")
                if isinstance(node, ast.Assign):
                    self.assertEqual(len(node.targets), 1)
                    self.assertNotIsInstance(node.targets[0], ast.Tuple)
                if isinstance(node, ast.Constant):
                    self.assertIn(node.value.__class__, (int, str, bool, None.__class__))

    def test_names(self):
        for path, tree in self.each_tree():
            for node in ast.walk(tree):
                bound = []
                if isinstance(node, ast.Name):
                    if isinstance(node.ctx, ast.Store):
                        bound.append(node.id)
                    elif hasattr(builtins, node.id):
                        self.assertIn(node.id, BUILTINS)
                if isinstance(node, ast.arg):
                    bound.append(node.arg)
                if isinstance(node, (ast.FunctionDef, ast.ClassDef)) and node.name != "__init__":
                    bound.append(node.name)
                for name in bound:
                    self.assertFalse(hasattr(builtins, name), name)
                    self.assertRegex(name, r"^[A-Za-z][A-Za-z0-9_]*$")

    def test_methods(self):
        for path, tree in self.each_tree():
            own = {node.name for node in ast.walk(tree) if isinstance(node, ast.FunctionDef)}
            for node in ast.walk(tree):
                if isinstance(node, ast.Call) and isinstance(node.func, ast.Attribute):
                    self.assertIn(node.func.attr, METHODS | own)

    def test_words(self):
        for path in FILES:
            found = set(re.findall(r"[A-Za-z_0-9]+", path.read_text(encoding="ascii")))
            self.assertEqual(found & WORDS, set())


if __name__ == "__main__":
    unittest.main()
