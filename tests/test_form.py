"""The package keeps to the form asked of it: the rules of LANGUAGE.md that a plain look at the files can see."""

import ast
import builtins
import pathlib
import re
import unittest

PACKAGE = pathlib.Path(__file__).resolve().parent.parent / "jarcards"

NODES = """
Module Expr Constant ImportFrom alias FunctionDef arguments arg Return ClassDef Pass Break Continue Raise
Try ExceptHandler If While For Assign AugAssign Name Load Store Attribute Subscript Slice Call keyword
List Tuple Dict ListComp comprehension IfExp Lambda JoinedStr FormattedValue
BoolOp And Or UnaryOp Not USub UAdd Invert BinOp Add Sub Mult FloorDiv Mod Pow BitAnd BitOr BitXor LShift RShift
Compare Eq NotEq Lt LtE Gt GtE Is IsNot In NotIn
""".split()

BUILT_IN = """
len range enumerate zip min max sum abs sorted reversed int str bool list tuple dict set frozenset isinstance
ord repr any all divmod ValueError KeyError IndexError LookupError ZeroDivisionError StopIteration Exception
""".split()

METHODS = """
append clear copy count endswith extend find get index insert isalnum isalpha isdigit islower isspace isupper
items join keys ljust lower lstrip partition pop remove replace reverse rfind rjust rpartition rsplit rstrip
setdefault split splitlines startswith strip update upper values zfill bit_length
""".split()

WORDS = """
type typing typing_extensions enum Enum IntEnum StrEnum Flag IntFlag Generic Protocol ABC ABCMeta namedtuple
NamedTuple TypedDict TYPE_CHECKING abstractmethod
""".split()


def trees():
    for path in sorted(PACKAGE.glob("*.py")):
        yield path.name, ast.parse(path.read_text())


def nodes():
    for file, tree in trees():
        for node in ast.walk(tree):
            yield f"{file}:{getattr(node, 'lineno', 0)}", node


def own_methods():
    return {node.name for place, node in nodes() if isinstance(node, ast.FunctionDef)}


class Form(unittest.TestCase):
    def test_files(self):
        found = [path for path in PACKAGE.iterdir() if path.name != "__pycache__"]
        self.assertTrue((PACKAGE / "__init__.py").is_file())
        for path in found:
            self.assertRegex(path.name, r"^(__init__|__main__|[a-z][a-z0-9_]*)\.py$")
            self.assertFalse(path.stem in dir(builtins), path.name)

    def test_signs_and_sizes(self):
        for path in PACKAGE.glob("*.py"):
            text = path.read_bytes().decode("ascii")
            rows = text.split("\n")
            self.assertRegex(text, r"\A[ -~\n]*\Z", path.name)
            self.assertLessEqual(len(rows), 400, path.name)
            self.assertLessEqual(max(len(row) for row in rows), 120, path.name)
            for word in re.findall(r"\w+", text):
                self.assertFalse(word in WORDS or "dataclass" in word, (path.name, word))

    def test_kinds_of_code(self):
        for place, node in nodes():
            self.assertIn(type(node).__name__, NODES, place)
            if isinstance(node, ast.FunctionDef):
                self.assertLessEqual(node.end_lineno - node.lineno + 1, 40, place)
                self.assertEqual((node.decorator_list, node.args.vararg, node.args.kwarg), ([], None, None), place)
            if isinstance(node, (ast.For, ast.While)):
                self.assertEqual(node.orelse, [], place)
            if isinstance(node, ast.Assign):
                self.assertEqual(len(node.targets), 1, place)
            if isinstance(node, ast.Try):
                self.assertEqual(node.finalbody, [], place)

    def test_values(self):
        for place, node in nodes():
            if isinstance(node, ast.Constant):
                self.assertIsInstance(node.value, (int, str, type(None)), place)
                self.assertNotIn("%", str(node.value), place)

    def test_imports(self):
        for place, node in nodes():
            if isinstance(node, ast.ImportFrom):
                self.assertEqual(node.level, 0, place)
                self.assertRegex(node.module, r"^jarcards\.[a-z_]+$", place)
                self.assertNotIn("*", [alias.name for alias in node.names], place)

    def test_names(self):
        for place, node in nodes():
            if isinstance(node, ast.Name):
                self.assertRegex(node.id, r"^[A-Za-z]\w*$", place)
                if node.id in dir(builtins):
                    self.assertIn(node.id, BUILT_IN, place)
                    self.assertIsInstance(node.ctx, ast.Load, place)
            if isinstance(node, ast.arg):
                self.assertRegex(node.arg, r"^[A-Za-z]\w*$", place)
                self.assertFalse(node.arg in dir(builtins), place)

    def test_methods(self):
        known = own_methods() | set(METHODS)
        for place, node in nodes():
            if isinstance(node, ast.Call) and isinstance(node.func, ast.Attribute):
                self.assertIn(node.func.attr, known, place)


if __name__ == "__main__":
    unittest.main()
