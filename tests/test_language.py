"""The package's files keep to the small part of Python that they're written in."""

import ast
import builtins
import re
import unittest
from pathlib import Path

PACKAGE = Path(__file__).resolve().parent.parent / "linkparts"
FILES = sorted(PACKAGE.glob("*.py"))
NODES = """Module Expr Constant ImportFrom alias FunctionDef arguments arg ClassDef Assign AugAssign If While For Return
    Break Continue Pass Raise Try ExceptHandler Call Name Load Store Attribute Subscript Slice List Tuple Dict ListComp
    comprehension BinOp Add Sub Mult FloorDiv Mod Pow BitAnd BitOr BitXor LShift RShift UnaryOp USub Not Invert BoolOp
    And Or Compare Eq NotEq Lt LtE Gt GtE Is IsNot In NotIn IfExp Lambda JoinedStr FormattedValue keyword""".split()
PYTHONS_OWN = """len range enumerate zip min max sum abs sorted reversed int str bool list tuple dict set frozenset
    isinstance ord repr any all divmod Exception ValueError KeyError LookupError IndexError ZeroDivisionError""".split()
METHODS = """append clear copy count endswith extend find get index insert isalnum isalpha isdigit islower isspace
    isupper items join keys ljust lower lstrip partition pop remove replace reverse rfind rjust rpartition rsplit rstrip
    setdefault split splitlines startswith strip update upper values zfill bit_length __init__""".split()
WORDS_OUT = re.compile(r"\b(type|typing|typing_extensions|enum|Enum|IntEnum|StrEnum|Flag|IntFlag|Generic|Protocol|ABC|"
                       r"ABCMeta|namedtuple|NamedTuple|TypedDict|TYPE_CHECKING|abstractmethod)\b"
                       r"|dataclass|overload|contextmanager")


def trees():
    return [(path, ast.parse(path.read_text("ascii"))) for path in FILES]


def is_plain(node, functions):
    """Whether a value may be given to a name of a file's top."""
    if isinstance(node, (ast.Tuple, ast.List)):
        return all(is_plain(part, functions) for part in node.elts)
    if isinstance(node, ast.Dict):
        return all(is_plain(part, functions) for part in node.keys + node.values)
    return isinstance(node, ast.Constant) or isinstance(node, ast.Name) and node.id in functions


class Language(unittest.TestCase):
    def test_the_package_folder_holds_plain_files_alone(self):
        for path in PACKAGE.iterdir():
            if path.name != "__pycache__":
                self.assertRegex(path.name, r"^([a-z][a-z0-9_]*|__init__)\.py$")

    def test_signs_and_sizes(self):
        for path in FILES:
            rows = path.read_bytes().decode("ascii").split("\n")
            self.assertLessEqual(len(rows), 400, path)
            for row in rows:
                self.assertRegex(row, r"^[ -~]{0,120}$", path)
                self.assertIsNone(WORDS_OUT.search(row), (path, row))

    def test_functions_are_short(self):
        for path, tree in trees():
            for node in ast.walk(tree):
                if isinstance(node, ast.FunctionDef):
                    self.assertLessEqual(node.end_lineno - node.lineno + 1, 40, (path, node.name))
                    self.assertFalse(node.decorator_list or node.args.vararg or node.args.kwarg or node.args.kwonlyargs)

    def test_nodes(self):
        for path, tree in trees():
            for node in ast.walk(tree):
                where = (path, getattr(node, "lineno", 0))
                self.assertIn(node.__class__.__name__, NODES, where)
                if isinstance(node, (ast.For, ast.While)):
                    self.assertFalse(node.orelse, where)
                if isinstance(node, ast.Try):
                    self.assertFalse(node.finalbody, where)
                if isinstance(node, ast.Assign):
                    self.assertEqual(len(node.targets), 1, where)
                if isinstance(node, ast.Constant):
                    self.assertIsInstance(node.value, (int, str, type(None)), where)
                if isinstance(node, ast.ListComp):
                    self.assertEqual(len(node.generators), 1, where)

    def test_tops_of_files(self):
        for path, tree in trees():
            functions = [node.name for node in tree.body if isinstance(node, ast.FunctionDef)]
            for node in tree.body:
                if isinstance(node, ast.Expr):
                    self.assertIsInstance(node.value, ast.Constant, path)
                elif isinstance(node, ast.Assign):
                    self.assertTrue(is_plain(node.value, functions), (path, node.lineno))
                else:
                    self.assertIsInstance(node, (ast.ImportFrom, ast.FunctionDef, ast.ClassDef), path)

    def test_imports(self):
        draws = {}
        for path, tree in trees():
            own = [node for node in ast.walk(tree) if isinstance(node, ast.ImportFrom)]
            draws[path.stem] = [node.module.removeprefix("linkparts.") for node in own]
            for node in own:
                self.assertEqual((node.level, node.module.split(".")[0]), (0, "linkparts"), path)
                defined = dict((p.stem, t) for p, t in trees())[node.module.removeprefix("linkparts.")]
                names = [n.name for n in defined.body if isinstance(n, (ast.FunctionDef, ast.ClassDef))]
                names += [n.targets[0].id for n in defined.body if isinstance(n, ast.Assign)]
                for alias in node.names:
                    self.assertIn(alias.name, names, path)
        while draws:
            free = [name for name in draws if not any(other in draws for other in draws[name])]
            self.assertTrue(free, f"these draw from one another: {sorted(draws)}")
            for name in free:
                draws.pop(name)

    def test_names_and_methods(self):
        own_methods = [method.name for path, tree in trees() for node in tree.body if isinstance(node, ast.ClassDef)
                       for method in node.body if isinstance(method, ast.FunctionDef)]
        for path, tree in trees():
            for node in ast.walk(tree):
                if isinstance(node, (ast.Name, ast.arg)):
                    name = node.id if isinstance(node, ast.Name) else node.arg
                    stored = isinstance(node, ast.arg) or isinstance(node.ctx, ast.Store)
                    self.assertFalse(name.startswith("_"), (path, node.lineno))
                    if stored or name not in PYTHONS_OWN:
                        self.assertNotIn(name, dir(builtins), (path, node.lineno))
                if isinstance(node, ast.Call) and isinstance(node.func, ast.Attribute):
                    self.assertIn(node.func.attr, METHODS + own_methods, (path, node.lineno))

    def test_methods_are_no_values(self):
        methods, values = set(), set()
        for path, tree in trees():
            for node in ast.walk(tree):
                if isinstance(node, ast.ClassDef):
                    methods |= {method.name for method in node.body if isinstance(method, ast.FunctionDef)}
                if isinstance(node, ast.Attribute) and isinstance(node.ctx, ast.Store):
                    values.add(node.attr)
        self.assertFalse(methods & values)
        for kind in (str, int, list, tuple, dict, set, bytes, range, slice):
            self.assertFalse(values & set(dir(kind)), kind)

    def test_forms_that_are_out(self):
        for path, tree in trees():
            for node in ast.walk(tree):
                where = (path, getattr(node, "lineno", 0))
                self.assertFalse(isinstance(node, ast.BinOp) and isinstance(node.op, ast.Pow), where)
                if isinstance(node, ast.Constant) and isinstance(node.value, str):
                    self.assertNotIn("%", node.value, where)
                if isinstance(node, ast.Compare) and isinstance(node.ops[0], (ast.Is, ast.IsNot)):
                    self.assertIn(getattr(node.comparators[0], "value", 0), (None, True, False), where)
                if isinstance(node, ast.Assign):
                    self.assertIsInstance(node.targets[0], (ast.Name, ast.Attribute, ast.Subscript), where)
                if isinstance(node, (ast.For, ast.comprehension)):
                    self.assertNotIsInstance(node.iter, ast.Set, where)

    def test_what_is_walked_on_the_spot(self):
        walkers = ("zip", "enumerate", "reversed", "range")
        for path, tree in trees():
            on_the_spot = [node.iter for node in ast.walk(tree) if isinstance(node, (ast.For, ast.comprehension))]
            for node in ast.walk(tree):
                if isinstance(node, ast.Call) and isinstance(node.func, ast.Name) and node.func.id in walkers:
                    self.assertIn(node, on_the_spot, (path, node.lineno))


if __name__ == "__main__":
    unittest.main()
