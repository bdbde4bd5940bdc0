"""The package's own files keep to the part of Python that is theirs, as far as a walk over them can see."""

import ast
import re
import unittest
from pathlib import Path

PACKAGE = Path(__file__).resolve().parent.parent / "linescriptsyard"
FILES = sorted(PACKAGE.glob("*.py"))

BUILTINS = set("""len range enumerate zip min max sum abs sorted reversed int str bool list tuple dict set frozenset
isinstance ord repr any all divmod Exception ValueError TypeError KeyError IndexError LookupError ZeroDivisionError
ArithmeticError OverflowError RuntimeError NotImplementedError AttributeError StopIteration""".split())
METHODS = set("""append clear copy count endswith extend find get index insert isalnum isalpha isdigit islower isspace
isupper items join keys ljust lower lstrip partition pop remove replace reverse rfind rjust rpartition rsplit rstrip
setdefault split splitlines startswith strip update upper values zfill bit_length""".split())
NODES = set("""Module Expr Constant Name Load Store Assign AugAssign FunctionDef ClassDef arguments arg Return If While
For Break Continue Pass Raise Try ExceptHandler Call keyword Attribute Subscript Slice List Tuple Dict Set ListComp
comprehension Lambda IfExp BoolOp And Or BinOp Add Sub Mult FloorDiv Mod Pow BitAnd BitOr BitXor LShift RShift UnaryOp
Not USub Invert Compare Eq NotEq Lt LtE Gt GtE In NotIn Is IsNot JoinedStr FormattedValue ImportFrom alias""".split())
NEVER = re.compile(r"""\b(type|typing|typing_extensions|enum|Enum|IntEnum|StrEnum|Flag|IntFlag|Generic|Protocol|ABC|
ABCMeta|namedtuple|NamedTuple|TypedDict|TYPE_CHECKING|abstractmethod)\b|dataclass|overload|contextmanager""", re.X)
UNUSED = set("""register mro elements open input version_info with_traceback add_note attrgetter breakpoint builtins
compile copyright credits delattr dir eval exec exit gc getattr globals hasattr help id importlib license locals
methodcaller os quit setattr super vars sys chr print hash next map filter format object property""".split())
DUNDERS = {"__init__", "__eq__", "__repr__", "__str__", "__len__"}


def names_bound(node):
    """The names that a node gives a meaning."""
    if isinstance(node, (ast.FunctionDef, ast.ClassDef)):
        return [node.name]
    if isinstance(node, ast.arg):
        return [node.arg]
    if isinstance(node, ast.Name) and isinstance(node.ctx, ast.Store):
        return [node.id]
    if isinstance(node, ast.alias):
        return [node.asname or node.name]
    if isinstance(node, ast.ExceptHandler) and node.name:
        return [node.name]
    return []


class Language(unittest.TestCase):
    """Every file of the package."""

    def each(self):
        """Each file's path, text and tree."""
        for path in FILES:
            source = path.read_text(encoding="ascii")
            yield path, source, ast.parse(source)

    def test_files(self):
        self.assertTrue((PACKAGE / "__init__.py").is_file())
        others = [path.name for path in PACKAGE.iterdir() if path.suffix != ".py" and path.name != "__pycache__"]
        self.assertEqual(others, [])
        for path in FILES:
            self.assertRegex(path.name, r"\A(__init__|[a-z][a-z0-9_]*)\.py\Z")

    def test_signs_and_sizes(self):
        for path, source, tree in self.each():
            self.assertRegex(source, r"\A[ -~\n]*\Z", path.name)
            lines = source.splitlines()
            self.assertLessEqual(len(lines), 399, path.name)
            self.assertLessEqual(max(map(len, lines)), 120, path.name)
            for node in ast.walk(tree):
                if isinstance(node, ast.FunctionDef):
                    self.assertLessEqual(node.end_lineno - node.lineno + 1, 40, node.name)
            self.assertIsNone(NEVER.search(source), path.name)

    def test_nodes(self):
        for path, source, tree in self.each():
            self.assertIsNotNone(ast.get_docstring(tree), path.name)
            for node in ast.walk(tree):
                where = f"{path.name}:{getattr(node, 'lineno', 0)} {type(node).__name__}"
                self.assertIn(type(node).__name__, NODES, where)
                if isinstance(node, ast.Constant):
                    self.assertIn(type(node.value), (int, str, bool, type(None)), where)
                    self.assertFalse(isinstance(node.value, str) and "%" in node.value, where)
                if isinstance(node, (ast.For, ast.While)):
                    self.assertEqual(node.orelse, [], where)
                if isinstance(node, ast.Assign):
                    self.assertEqual(len(node.targets), 1, where)
                if isinstance(node, ast.Try):
                    self.assertEqual(node.finalbody, [], where)
                if isinstance(node, ast.ListComp):
                    self.assertEqual(len(node.generators), 1, where)
                    self.assertLessEqual(len(node.generators[0].ifs), 1, where)
                if isinstance(node, (ast.FunctionDef, ast.ClassDef)):
                    self.assertEqual(node.decorator_list, [], where)
                if isinstance(node, ast.arguments):
                    self.assertEqual((node.vararg, node.kwarg, node.kwonlyargs, node.posonlyargs), (None, None, [], []))

    def test_imports(self):
        drawn = {}
        for path, source, tree in self.each():
            drawn[path.stem] = []
            for node in ast.walk(tree):
                if isinstance(node, ast.ImportFrom):
                    self.assertIn(node, tree.body, path.name)
                    package, name = node.module.split(".")
                    self.assertEqual((package, node.level), ("linescriptsyard", 0))
                    drawn[path.stem].append(name)
                    other = ast.parse((PACKAGE / f"{name}.py").read_text())
                    own = [bound for part in other.body for inner in ast.walk(part) for bound in names_bound(inner)
                           if not isinstance(part, ast.ImportFrom)]
                    for alias in node.names:
                        self.assertIn(alias.name, own)
        while drawn:
            free = [name for name in drawn if not any(other in drawn for other in drawn[name])]
            self.assertTrue(free, f"these draw from one another: {sorted(drawn)}")
            for name in free:
                del drawn[name]

    def test_names(self):
        for path, source, tree in self.each():
            top = [name for node in tree.body for part in ([node] if not isinstance(node, (ast.Assign, ast.ImportFrom))
                   else ast.walk(node)) for name in names_bound(part)]
            self.assertEqual(len(top), len(set(top)), path.name)
            bound = {name for node in ast.walk(tree) for name in names_bound(node)}
            for name in bound - DUNDERS:
                self.assertRegex(name, r"\A[A-Za-z][A-Za-z0-9_]*\Z", path.name)
                self.assertNotIn(name, BUILTINS | UNUSED, path.name)
            for node in ast.walk(tree):
                if isinstance(node, ast.Name):
                    self.assertIn(node.id, bound | BUILTINS, path.name)
                    self.assertNotIn(node.id, UNUSED, path.name)

    def test_methods(self):
        own = {"__init__"}
        methods = set()
        values = set()
        for path, source, tree in self.each():
            for node in ast.walk(tree):
                if isinstance(node, ast.ClassDef):
                    methods |= {part.name for part in node.body if isinstance(part, ast.FunctionDef)}
                if isinstance(node, ast.Attribute) and isinstance(node.ctx, ast.Store):
                    values.add(node.attr)
        self.assertEqual((methods | own) & values, set())
        for path, source, tree in self.each():
            for node in ast.walk(tree):
                if isinstance(node, ast.Attribute):
                    self.assertIn(node.attr, METHODS | methods | values, f"{path.name}:{node.lineno}")

    def test_forms(self):
        keywords = {"key", "reverse", "default", "start", "strict"}
        errors = {"KeyError", "ZeroDivisionError", "StopIteration"}
        for path, source, tree in self.each():
            errors |= {node.name for node in tree.body if isinstance(node, ast.ClassDef)}
        for path, source, tree in self.each():
            for node in ast.walk(tree):
                where = f"{path.name}:{getattr(node, 'lineno', 0)}"
                if isinstance(node, ast.Compare):
                    for part, value in zip(node.ops, node.comparators):
                        if isinstance(part, (ast.Is, ast.IsNot)):
                            self.assertIsInstance(value, ast.Constant, where)
                if isinstance(node, ast.Call):
                    self.assertLessEqual({part.arg for part in node.keywords}, keywords, where)
                if isinstance(node, ast.Raise):
                    self.assertIsInstance(node.exc, ast.Call, where)
                if isinstance(node, ast.ExceptHandler):
                    self.assertIsInstance(node.type, ast.Name, where)
                    self.assertIn(node.type.id, errors, where)
                if isinstance(node, ast.FormattedValue):
                    self.assertIsInstance(node.value, ast.Name, where)
                if isinstance(node, ast.Assign):
                    self.assertIsInstance(node.targets[0], (ast.Name, ast.Attribute, ast.Subscript), where)

    def test_nothing_at_a_file_s_top_is_handed_on(self):
        readers = {"len", "list", "dict", "tuple"}
        for path, source, tree in self.each():
            kept = {node.targets[0].id for node in tree.body if isinstance(node, ast.Assign)
                    and isinstance(node.value, (ast.Tuple, ast.List, ast.Dict))}
            for node in ast.walk(tree):
                values = []
                if isinstance(node, (ast.Return, ast.Assign)):
                    values = [node.value]
                if isinstance(node, ast.Call) and getattr(node.func, "id", None) not in readers:
                    values = node.args
                names = {value.id for value in values if isinstance(value, ast.Name)}
                self.assertEqual(names & kept, set(), f"{path.name}:{getattr(node, 'lineno', 0)}")

    def test_the_interface(self):
        tree = ast.parse((PACKAGE / "examples.py").read_text())
        defs = [node for node in tree.body if isinstance(node, ast.FunctionDef) and node.name == "answers"]
        self.assertEqual([[arg.arg for arg in node.args.args] for node in defs], [["calls"]])
        self.assertEqual(defs[0].args.defaults, [])


if __name__ == "__main__":
    unittest.main()
