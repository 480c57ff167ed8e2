"""The package keeps to its small part of Python: those rules that a short look at its files can tell."""

import ast
import builtins
import pathlib
import re
import unittest

PACKAGE = pathlib.Path(__file__).resolve().parent.parent / "tripunits"

NODES = """
Module FunctionDef ClassDef arguments arg Lambda Assign AugAssign If While For Return Break Continue Pass Raise Try
ExceptHandler Expr ImportFrom alias Constant Name Load Store Attribute Subscript Slice Call keyword List Tuple Dict Set
ListComp comprehension BinOp UnaryOp BoolOp Compare IfExp JoinedStr FormattedValue Add Sub Mult FloorDiv Mod Pow BitAnd
BitOr BitXor LShift RShift Invert UAdd USub And Or Not Eq NotEq Lt LtE Gt GtE Is IsNot In NotIn
""".split()
BUILTINS = """
len range enumerate zip min max sum abs sorted reversed int str bool list tuple dict set frozenset isinstance ord repr
any all divmod Exception ValueError TypeError KeyError IndexError LookupError ZeroDivisionError ArithmeticError
OverflowError RuntimeError NotImplementedError AttributeError StopIteration
""".split()
METHODS = """
append clear copy count endswith extend find get index insert isalnum isalpha isdigit islower isspace isupper items join
keys ljust lower lstrip partition pop remove replace reverse rfind rjust rpartition rsplit rstrip setdefault split
splitlines startswith strip update upper values zfill bit_length
""".split()
WORDS = """
type typing typing_extensions enum Enum IntEnum StrEnum Flag IntFlag Generic Protocol ABC ABCMeta namedtuple NamedTuple
TypedDict TYPE_CHECKING abstractmethod
""".split()
SPECIAL_METHODS = ["__init__", "__eq__", "__repr__", "__str__", "__len__"]
PYTHONS_OWN = [name for kind in (str, int, list, dict, set, bytes) for name in dir(kind)]


def package_files():
    return sorted(path for path in PACKAGE.rglob("*") if "__pycache__" not in path.parts)


def trees():
    return [(path, ast.parse(path.read_text())) for path in package_files() if path.suffix == ".py"]


def bound_names(tree):
    for node in ast.walk(tree):
        if isinstance(node, (ast.FunctionDef, ast.ClassDef)):
            yield node.name
        elif isinstance(node, ast.arg):
            yield node.arg
        elif isinstance(node, ast.Name) and isinstance(node.ctx, ast.Store):
            yield node.id
        elif isinstance(node, ast.Attribute) and isinstance(node.ctx, ast.Store):
            yield node.attr


def top_names(tree):
    names = [node.name for node in tree.body if isinstance(node, (ast.FunctionDef, ast.ClassDef))]
    return names + [target.id for node in tree.body if isinstance(node, ast.Assign) for target in node.targets]


def imports(tree):
    return [(node.module, alias.name) for node in tree.body if isinstance(node, ast.ImportFrom) for alias in node.names]


class Language(unittest.TestCase):
    def test_files(self):
        self.assertIn(PACKAGE / "__init__.py", package_files())
        for path in package_files():
            self.assertTrue(path.is_file() and path.suffix == ".py", path)

    def test_signs_and_size(self):
        for path in package_files():
            text = path.read_bytes().decode("ascii")
            self.assertTrue(all(sign == "\n" or " " <= sign <= "~" for sign in text), path)
            lines = text.splitlines()
            self.assertLessEqual(len(lines), 400, path)
            self.assertLessEqual(max(map(len, lines), default=0), 120, path)

    def test_words(self):
        for path in package_files():
            text = path.read_text()
            self.assertFalse(set(re.findall(r"\w+", text)) & set(WORDS), path)
            self.assertIsNone(re.search("dataclass|overload|contextmanager", text), path)

    def test_nodes(self):
        for path, tree in trees():
            for node in ast.walk(tree):
                self.assertIn(type(node).__name__, NODES, (path, getattr(node, "lineno", 0)))
                if isinstance(node, ast.Constant):
                    self.assertIn(type(node.value), (int, str, bool, type(None)), (path, node.lineno))
                if isinstance(node, ast.ImportFrom):
                    self.assertTrue(node.level == 0 and node.module.startswith("tripunits."), (path, node.lineno))

    def test_calls_by_themselves(self):
        for path, tree in trees():
            for node in ast.walk(tree):
                if isinstance(node, ast.Expr) and node not in tree.body[:1]:
                    self.assertIsInstance(node.value, ast.Call, (path, node.lineno))

    def test_functions(self):
        for path, tree in trees():
            for node in ast.walk(tree):
                if isinstance(node, ast.FunctionDef):
                    where = (path, node.name)
                    self.assertLessEqual(node.end_lineno - node.lineno + 1, 40, where)
                    self.assertFalse(node.decorator_list, where)
                    spare = node.args
                    self.assertFalse(spare.vararg or spare.kwarg or spare.kwonlyargs or spare.posonlyargs, where)

    def test_names(self):
        for path, tree in trees():
            for name in bound_names(tree):
                if name not in SPECIAL_METHODS:
                    self.assertRegex(name, r"\A[A-Za-z]\w*\Z", path)
                    self.assertNotIn(name, dir(builtins), path)

    def test_pythons_own_names(self):
        for path, tree in trees():
            for node in ast.walk(tree):
                if isinstance(node, ast.Name) and node.id in dir(builtins):
                    self.assertIn(node.id, BUILTINS, (path, node.lineno))
                if isinstance(node, ast.Attribute) and node.attr in PYTHONS_OWN:
                    self.assertIn(node.attr, METHODS, (path, node.lineno))

    def test_each_name_once(self):
        for path, tree in trees():
            names = top_names(tree) + [name for _, name in imports(tree)]
            self.assertEqual(len(names), len(set(names)), path)
            taken = [name for _, name in imports(tree)]
            taken += [node.name for node in tree.body if isinstance(node, ast.ClassDef)]
            for node in ast.walk(tree):
                if isinstance(node, ast.FunctionDef):
                    self.assertFalse(set(bound_names(node)) & set(taken), (path, node.name))

    def test_imports(self):
        defined = {"tripunits." + path.stem: top_names(tree) for path, tree in trees()}
        drawn = {"tripunits." + path.stem: imports(tree) for path, tree in trees()}
        for rows in drawn.values():
            for module, name in rows:
                self.assertIn(name, defined[module])
        left = dict(drawn)
        while left:
            free = [file for file in left if not any(module in left for module, _ in left[file])]
            self.assertTrue(free, "files draw from one another: " + ", ".join(sorted(left)))
            left = {file: left[file] for file in left if file not in free}

    def test_two_forms(self):
        for path, tree in trees():
            for node in ast.walk(tree):
                where = (path, getattr(node, "lineno", 0))
                if isinstance(node, ast.Assign):
                    self.assertEqual(len(node.targets), 1, where)
                    self.assertNotIsInstance(node.targets[0], (ast.Tuple, ast.List), where)
                if isinstance(node, ast.Compare) and isinstance(node.ops[0], (ast.Is, ast.IsNot)):
                    self.assertIn(ast.unparse(node.comparators[0]), ("None", "True", "False"), where)
                if isinstance(node, (ast.For, ast.While)):
                    self.assertFalse(node.orelse, where)
                if isinstance(node, ast.ListComp):
                    self.assertEqual(len(node.generators), 1, where)
                    self.assertLessEqual(len(node.generators[0].ifs), 1, where)
                if isinstance(node, ast.BinOp):
                    self.assertNotIsInstance(node.op, ast.Pow, where)


if __name__ == "__main__":
    unittest.main()
