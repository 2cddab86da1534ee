"""The package keeps to the part of Python that it is to keep to, as far as a look at its form can tell."""

import ast
import builtins
import pathlib
import re
import unittest

PACKAGE = pathlib.Path(__file__).resolve().parent.parent / "clothchoices"

NODES = """Module Expr Constant FunctionDef arguments arg Return Assign AugAssign If While For Break Continue Pass
Raise Try ExceptHandler ClassDef ImportFrom alias Call Attribute Subscript Slice Name Load Store List Tuple Dict
ListComp comprehension IfExp BinOp BoolOp UnaryOp Compare And Or Not USub Invert Add Sub Mult FloorDiv Mod Pow
LShift RShift BitAnd BitOr BitXor Eq NotEq Lt LtE Gt GtE Is IsNot In NotIn JoinedStr FormattedValue Lambda
keyword""".split()

BUILTINS = """len range enumerate zip min max sum abs sorted reversed int str bool list tuple dict set frozenset
isinstance ord repr any all divmod Exception ValueError KeyError IndexError LookupError ZeroDivisionError
ArithmeticError OverflowError RuntimeError NotImplementedError StopIteration""".split()

METHODS = """append clear copy count endswith extend find get index insert isalnum isalpha isdigit islower isspace
isupper items join keys ljust lower lstrip partition pop remove replace reverse rfind rjust rpartition rsplit rstrip
setdefault split splitlines startswith strip update upper values zfill bit_length""".split()

WORDS = """type typing typing_extensions enum Enum IntEnum StrEnum Flag IntFlag Generic Protocol ABC ABCMeta
namedtuple NamedTuple TypedDict TYPE_CHECKING abstractmethod""".split()


class Language(unittest.TestCase):
    def files(self):
        return sorted(path for path in PACKAGE.rglob("*") if path.is_file() and "__pycache__" not in path.parts)

    def trees(self):
        return [(path, ast.parse(path.read_text())) for path in self.files()]

    def test_files(self):
        self.assertIn(PACKAGE / "tops.py", self.files())
        self.assertIn(PACKAGE / "__init__.py", self.files())
        for path in self.files():
            self.assertRegex(path.name, r"^[a-z0-9_]+\.py$")

    def test_signs_and_sizes(self):
        for path in self.files():
            text = path.read_bytes().decode("ascii")
            self.assertRegex(text, r"\A[ -~\n]*\Z", path)
            self.assertLessEqual(text.count("\n"), 400, path)
            self.assertLessEqual(max(len(line) for line in text.split("\n")), 120, path)
            self.assertFalse(set(re.findall(r"\w+", text)) & set(WORDS), path)
            self.assertIsNone(re.search("dataclass|overload|contextmanager", text), path)

    def test_nodes(self):
        for path, tree in self.trees():
            for node in ast.walk(tree):
                where = (path.name, getattr(node, "lineno", 0), type(node).__name__)
                self.assertIn(type(node).__name__, NODES, where)
                if isinstance(node, ast.FunctionDef):
                    self.assertLessEqual(node.end_lineno - node.lineno + 1, 40, where)
                    self.assertFalse(node.decorator_list or node.args.vararg or node.args.kwarg, where)
                if isinstance(node, ast.Constant):
                    self.assertIn(type(node.value), (int, str, bool, type(None)), where)
                if isinstance(node, ast.Assign):
                    self.assertEqual(len(node.targets), 1, where)
                if isinstance(node, (ast.For, ast.While)):
                    self.assertFalse(node.orelse, where)
                if isinstance(node, ast.ImportFrom):
                    self.assertTrue(node.module.startswith("clothchoices."), where)
                if isinstance(node, ast.Call) and isinstance(node.func, ast.Attribute):
                    self.assertIn(node.func.attr, METHODS, where)

    def test_names(self):
        for path, tree in self.trees():
            for node in ast.walk(tree):
                where = (path.name, getattr(node, "lineno", 0))
                if isinstance(node, ast.Name):
                    self.assertFalse(node.id.startswith("_"), where)
                    if hasattr(builtins, node.id):
                        self.assertIn(node.id, BUILTINS, where)
                        self.assertIsInstance(node.ctx, ast.Load, where)
                if isinstance(node, ast.arg):
                    self.assertFalse(hasattr(builtins, node.arg), where)

    def test_imports(self):
        trees = {"clothchoices." + path.stem: tree for path, tree in self.trees()}
        done = []
        while len(done) < len(trees):
            # A file is done once all that it draws from are: were two to draw from one another, neither would be.
            ready = [name for name, tree in trees.items() if name not in done and
                     all(node.module in done for node in tree.body if isinstance(node, ast.ImportFrom))]
            self.assertTrue(ready, done)
            done += ready
        for name, tree in trees.items():
            rows = [node for node in tree.body if isinstance(node, ast.ImportFrom)]
            drawn = [(node.module, entry) for node in rows for entry in node.names]
            for module, entry in drawn:
                self.assertIn(entry.name, bound_at_top(trees[module]), (name, module))
                self.assertIsNone(entry.asname)
            given = [entry.name for module, entry in drawn]
            given += [node.name for node in tree.body if isinstance(node, ast.ClassDef)]
            for node in ast.walk(tree):
                local = node.arg if isinstance(node, ast.arg) else stored_name(node)
                self.assertNotIn(local, given, (name, getattr(node, "lineno", 0)))
            top = bound_at_top(tree)
            self.assertEqual(len(top), len(set(top)), name)


def stored_name(node):
    return node.id if isinstance(node, ast.Name) and isinstance(node.ctx, ast.Store) else None


def bound_at_top(tree):
    names = [node.name for node in tree.body if isinstance(node, (ast.FunctionDef, ast.ClassDef))]
    return names + [target.id for node in tree.body if isinstance(node, ast.Assign) for target in node.targets]


if __name__ == "__main__":
    unittest.main()
