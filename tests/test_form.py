"""The package keeps to the form asked of it: the rules of LANGUAGE.md that a plain look at the files can see."""

import ast
import builtins
import pathlib
import re
import unittest

PACKAGE = pathlib.Path(__file__).resolve().parent.parent / "jarcards"

NODES = """
Module Expr Constant ImportFrom alias FunctionDef arguments arg Return ClassDef Pass Break Continue Raise
Try ExceptHandler If While For Assign AugAssign Name Load Store Attribute Subscript Slice Call keyword
List Tuple Dict ListComp comprehension IfExp Lambda JoinedStr FormattedValue
BoolOp And Or UnaryOp Not USub UAdd Invert BinOp Add Sub Mult FloorDiv Mod Pow BitAnd BitOr BitXor LShift RShift
Compare Eq NotEq Lt LtE Gt GtE Is IsNot In NotIn
""".split()

BUILT_IN = """
len range enumerate zip min max sum abs sorted reversed int str bool list tuple dict set frozenset isinstance
ord repr any all divmod ValueError KeyError IndexError LookupError ZeroDivisionError StopIteration Exception
""".split()

METHODS = """
append clear copy count endswith extend find get index insert isalnum isalpha isdigit islower isspace isupper
items join keys ljust lower lstrip partition pop remove replace reverse rfind rjust rpartition rsplit rstrip
setdefault split splitlines startswith strip update upper values zfill bit_length
""".split()

WORDS = """
type typing typing_extensions enum Enum IntEnum StrEnum Flag IntFlag Generic Protocol ABC ABCMeta namedtuple
NamedTuple TypedDict TYPE_CHECKING abstractmethod
""".split()


def trees():
    for path in sorted(PACKAGE.glob("*.py")):
        yield path.name, ast.parse(path.read_text())


def nodes():
    for file, tree in trees():
        for node in ast.walk(tree):
            yield f"{file}:{getattr(node, 'lineno', 0)}", node


def own_methods():
    return {node.name for place, node in nodes() if isinstance(node, ast.FunctionDef)}


class Form(unittest.TestCase):
    def test_files(self):
        found = [path for path in PACKAGE.iterdir() if path.name != "__pycache__"]
        self.assertTrue((PACKAGE / "__init__.py").is_file())
        for path in found:
            self.assertRegex(path.name, r"^(__init__|__main__|[a-z][a-z0-9_]*)\.py$")
            self.assertFalse(path.stem in dir(builtins), path.name)

    def test_signs_and_sizes(self):
        for path in PACKAGE.glob("*.py"):
            text = path.read_bytes().decode("ascii")
            rows = text.split("\n")
            self.assertRegex(text, r"\A[ -~\n]*\Z", path.name)
            self.assertLessEqual(len(rows), 400, path.name)
            self.assertLessEqual(max(len(row) for row in rows), 120, path.name)
            for word in re.findall(r"\w+", text):
                self.assertFalse(word in WORDS or "dataclass" in word, (path.name, word))

    def test_kinds_of_code(self):
        for place, node in nodes():
            self.assertIn(type(node).__name__, NODES, place)
            if isinstance(node, ast.FunctionDef):
                self.assertLessEqual(node.end_lineno - node.lineno + 1, 40, place)
                self.assertEqual((node.decorator_list, node.args.vararg, node.args.kwarg), ([], None, None), place)
            if isinstance(node, (ast.For, ast.While)):
                self.assertEqual(node.orelse, [], place)
            if isinstance(node, ast.Assign):
                self.assertEqual(len(node.targets), 1, place)
            if isinstance(node, ast.Try):
                self.assertEqual(node.finalbody, [], place)

    def test_values(self):
        for place, node in nodes():
            if isinstance(node, ast.Constant):
                self.assertIsInstance(node.value, (int, str, type(None)), place)
                self.assertNotIn("%", str(node.value), place)

    def test_imports(self):
        for place, node in nodes():
            if isinstance(node, ast.ImportFrom):
                self.assertEqual(node.level, 0, place)
                self.assertRegex(node.module, r"^jarcards\.[a-z_]+$", place)
                self.assertNotIn("*", [alias.name for alias in node.names], place)

    def test_names(self):
        for place, node in nodes():
            if isinstance(node, ast.Name):
                self.assertRegex(node.id, r"^[A-Za-z]\w*$", place)
                if node.id in dir(builtins):
                    self.assertIn(node.id, BUILT_IN, place)
                    self.assertIsInstance(node.ctx, ast.Load, place)
            if isinstance(node, ast.arg):
                self.assertRegex(node.arg, r"^[A-Za-z]\w*$", place)
                self.assertFalse(node.arg in dir(builtins), place)

    def test_methods(self):
        known = own_methods() | set(METHODS)
        for place, node in nodes():
            if isinstance(node, ast.Call) and isinstance(node.func, ast.Attribute):
                self.assertIn(node.func.attr, known, place)

    def test_no_name_is_a_method_here_and_a_value_there(self):
        methods, values = set(), set()
        for place, node in nodes():
            if isinstance(node, ast.ClassDef):
                methods.update(inner.name for inner in node.body if isinstance(inner, ast.FunctionDef))
            if isinstance(node, ast.Attribute) and isinstance(node.ctx, ast.Store):
                values.add(node.attr)
        self.assertEqual(methods & values, set())
        kinds = (str, int, list, dict, set, bytes, tuple)
        self.assertEqual({word for word in methods | values if any(hasattr(kind, word) for kind in kinds)}, {"__init__"})

    def test_no_local_is_called_like_a_class_or_an_import(self):
        for file, tree in trees():
            taken = {node.name for node in tree.body if isinstance(node, ast.ClassDef)}
            for node in tree.body:
                if isinstance(node, ast.ImportFrom):
                    taken.update(alias.asname or alias.name for alias in node.names)
            for node in ast.walk(tree):
                if isinstance(node, ast.arg):
                    self.assertNotIn(node.arg, taken, file)
                if isinstance(node, ast.Name) and isinstance(node.ctx, ast.Store):
                    self.assertNotIn(node.id, taken, file)

    def test_files_draw_from_those_that_define_and_never_in_a_ring(self):
        own = {file[:-3]: {node.name for node in tree.body if hasattr(node, "name")} for file, tree in trees()}
        drawn = {file[:-3]: [node for node in tree.body if isinstance(node, ast.ImportFrom)] for file, tree in trees()}
        for file in drawn:
            for node in drawn[file]:
                self.assertLessEqual({alias.name for alias in node.names}, own[node.module.split(".")[1]], file)
        left = {file: {node.module.split(".")[1] for node in drawn[file]} for file in drawn}
        while left:
            ready = [file for file in left if not left[file] & set(left)]
            self.assertTrue(ready, left)
            for file in ready:
                del left[file]


if __name__ == "__main__":
    unittest.main()
