"""The package keeps to its small part of Python, as far as that is plain to see in its files."""

import ast
import pathlib
import re
import unittest

PACKAGE = pathlib.Path(__file__).resolve().parent.parent / "yardtimes"

NODES = """
Module FunctionDef ClassDef arguments arg Assign AugAssign If While For Return Break Continue Pass Raise Try
ExceptHandler Expr ImportFrom alias Name Load Store Attribute Subscript Slice Constant List Tuple Dict Set BinOp
UnaryOp BoolOp Compare IfExp Call keyword ListComp comprehension JoinedStr FormattedValue Lambda Add Sub Mult FloorDiv
Mod Pow BitAnd BitOr BitXor LShift RShift Invert USub UAdd Not And Or Eq NotEq Lt LtE Gt GtE Is IsNot In NotIn
""".split()

BUILT_IN = """
len range enumerate zip min max sum abs sorted reversed int str bool list tuple dict set frozenset isinstance ord repr
any all divmod Exception ValueError TypeError KeyError IndexError LookupError ZeroDivisionError ArithmeticError
OverflowError RuntimeError NotImplementedError AttributeError StopIteration
""".split()

METHODS = """
append clear copy count endswith extend find get index insert isalnum isalpha isdigit islower isspace isupper items join
keys ljust lower lstrip partition pop remove replace reverse rfind rjust rpartition rsplit rstrip setdefault split
splitlines startswith strip update upper values zfill bit_length
""".split()

UNSAID = """
type typing typing_extensions enum Enum IntEnum StrEnum Flag IntFlag Generic Protocol ABC ABCMeta namedtuple NamedTuple
TypedDict TYPE_CHECKING abstractmethod
""".split()

OWN_DUNDERS = ("__init__", "__eq__", "__repr__", "__str__", "__len__")


def files():
    return sorted(path for path in PACKAGE.rglob("*") if path.is_file() and "__pycache__" not in path.parts)


def trees():
    return {path: ast.parse(path.read_text("utf-8")) for path in files()}


def bound_names(tree):
    names = {node.name for node in ast.walk(tree) if isinstance(node, (ast.FunctionDef, ast.ClassDef))}
    names |= {node.id for node in ast.walk(tree) if isinstance(node, ast.Name) and isinstance(node.ctx, ast.Store)}
    names |= {node.arg for node in ast.walk(tree) if isinstance(node, ast.arg)}
    return names | {node.name for node in ast.walk(tree) if isinstance(node, ast.alias)}


class Language(unittest.TestCase):
    def test_files(self):
        for path in files():
            self.assertRegex(path.name, r"\A(__init__|[a-z][a-z0-9_]*)\.py\Z")
            text = path.read_text("utf-8")
            self.assertRegex(text, r"\A[ -~\n]*\Z", path)
            self.assertLessEqual(len(text.splitlines()), 400, path)
            self.assertLessEqual(max(len(line) for line in text.splitlines()), 120, path)
            for word in re.findall(r"\w+", text):
                self.assertNotIn(word, UNSAID, path)

    def test_nodes(self):
        for path, tree in trees().items():
            for node in ast.walk(tree):
                where = f"{path.name}:{getattr(node, 'lineno', 0)}"
                self.assertIn(node.__class__.__name__, NODES, where)
                if isinstance(node, ast.Constant):
                    self.assertIsInstance(node.value, (int, str, bool, type(None)), where)
                if isinstance(node, ast.Assign):
                    self.assertEqual(len(node.targets), 1, where)
                if isinstance(node, (ast.For, ast.While)):
                    self.assertEqual(node.orelse, [], where)
                if isinstance(node, ast.Expr):
                    self.assertIsInstance(node.value, (ast.Call, ast.Constant), where)

    def test_functions(self):
        for path, tree in trees().items():
            for node in ast.walk(tree):
                if isinstance(node, (ast.FunctionDef, ast.ClassDef)):
                    self.assertEqual(node.decorator_list, [], node.name)
                if isinstance(node, ast.FunctionDef):
                    self.assertLessEqual(node.end_lineno - node.lineno + 1, 40, node.name)
                    self.assertFalse(node.args.vararg or node.args.kwarg or node.args.kwonlyargs, node.name)

    def test_names(self):
        for path, tree in trees().items():
            bound = bound_names(tree)
            self.assertEqual(bound & set(BUILT_IN), set(), path)
            for name in bound:
                self.assertTrue(not name.startswith("_") or name in OWN_DUNDERS, name)
            used = {node.id for node in ast.walk(tree) if isinstance(node, ast.Name)}
            self.assertEqual(used - bound - set(BUILT_IN), set(), path)

    def test_imports(self):
        drawn = {}
        for path, tree in trees().items():
            module = f"yardtimes.{path.stem}"
            drawn[module] = [node.module for node in ast.walk(tree) if isinstance(node, ast.ImportFrom)]
            self.assertTrue(all(name.startswith("yardtimes.") for name in drawn[module]), path)
        while drawn:
            free = [module for module, others in drawn.items() if not set(others) & set(drawn)]
            self.assertNotEqual(free, [], f"drawn in a ring: {drawn}")
            drawn = {module: others for module, others in drawn.items() if module not in free}

    def test_methods_and_values(self):
        methods, values, called = set(), set(), set()
        for tree in trees().values():
            for node in ast.walk(tree):
                if isinstance(node, ast.ClassDef):
                    methods |= {part.name for part in node.body if isinstance(part, ast.FunctionDef)}
                    kinds = (ast.FunctionDef, ast.Expr)
                    self.assertTrue(all(isinstance(part, kinds) for part in node.body), node.name)
                if isinstance(node, ast.Attribute) and isinstance(node.ctx, ast.Store):
                    values.add(node.attr)
                if isinstance(node, ast.Call) and isinstance(node.func, ast.Attribute):
                    called.add(node.func.attr)
        self.assertEqual(methods & values, set())
        self.assertEqual(called - methods - set(METHODS), set())
        own = {name for value in ("", 0, [], {}, set(), b"") for name in dir(value)} - set(OWN_DUNDERS)
        self.assertEqual((methods | values) & own, set())

    def test_the_top_of_a_module(self):
        kinds = (ast.Expr, ast.ImportFrom, ast.FunctionDef, ast.ClassDef, ast.Assign)
        for path, tree in trees().items():
            for node in tree.body:
                self.assertIsInstance(node, kinds, path)
                if isinstance(node, ast.Assign):
                    ast.literal_eval(node.value)


if __name__ == "__main__":
    unittest.main()
