"""The package keeps to a small part of Python; what of that can be seen in its files is looked for here."""

import ast
import pathlib
import re
import unittest

PACKAGE = pathlib.Path(__file__).resolve().parent.parent / "bitfloats"
FILES = sorted(PACKAGE.glob("*.py"))

NODES = """Module Expr Constant ImportFrom alias FunctionDef arguments arg ClassDef Assign AugAssign If While For Return Break
Continue Pass Raise Try ExceptHandler Name Load Store Attribute Subscript Slice Call List Tuple Dict ListComp comprehension
BinOp UnaryOp BoolOp Compare IfExp JoinedStr FormattedValue Lambda keyword Add Sub Mult FloorDiv Mod Pow LShift RShift BitAnd BitOr
BitXor Invert USub UAdd And Or Not Eq NotEq Lt LtE Gt GtE In NotIn Is IsNot""".split()
OWN_NAMES = """len range enumerate zip min max sum abs sorted reversed int str bool list tuple dict set frozenset isinstance ord
repr any all divmod Exception ValueError TypeError KeyError IndexError LookupError ZeroDivisionError ArithmeticError OverflowError
RuntimeError NotImplementedError AttributeError StopIteration""".split()
METHODS = """append clear copy count endswith extend find get index insert isalnum isalpha isdigit islower isspace isupper items
join keys ljust lower lstrip partition pop remove replace reverse rfind rjust rpartition rsplit rstrip setdefault split splitlines
startswith strip update upper values zfill bit_length""".split()
WORDS = re.compile(r"\b(type|typing|typing_extensions|enum|Enum|IntEnum|StrEnum|Flag|IntFlag|Generic|Protocol|ABC|ABCMeta"
                   r"|namedtuple|NamedTuple|TypedDict|TYPE_CHECKING|abstractmethod)\b|dataclass|overload|contextmanager")


def trees():
    return [(path, ast.parse(path.read_text())) for path in FILES]


class Language(unittest.TestCase):
    def test_files(self):
        self.assertIn("numbers.py", [path.name for path in FILES])
        for path in PACKAGE.iterdir():
            if path.name != "__pycache__":
                self.assertRegex(path.name, r"\A([a-z][a-z0-9_]*|__init__)\.py\Z")

    def test_signs_and_sizes(self):
        for path in FILES:
            text = path.read_text()
            self.assertRegex(text, r"\A[ -~\n]*\Z", path.name)
            self.assertIsNone(WORDS.search(text), path.name)
            rows = text.split("\n")
            self.assertLessEqual(len(rows), 400)
            self.assertLessEqual(max(len(row) for row in rows), 120)
        for path, tree in trees():
            for node in ast.walk(tree):
                if isinstance(node, ast.FunctionDef):
                    self.assertLessEqual(node.end_lineno - node.lineno + 1, 40, node.name)

    def test_nodes(self):
        for path, tree in trees():
            for node in ast.walk(tree):
                self.assertIn(node.__class__.__name__, NODES, (path.name, getattr(node, "lineno", 0)))
                self.check_node(node, (path.name, getattr(node, "lineno", 0)))

    def check_node(self, node, place):
        if isinstance(node, ast.Constant):
            self.assertIn(type(node.value), (int, str, bool, type(None)), place)
            self.assertFalse(isinstance(node.value, str) and "%" in node.value, place)
        if isinstance(node, ast.BinOp) and isinstance(node.op, ast.Pow):
            self.assertTrue(isinstance(node.right, ast.Constant) and 0 <= node.right.value <= 64, place)
        if isinstance(node, ast.Assign):
            self.assertEqual(len(node.targets), 1, place)
            self.assertNotIsInstance(node.targets[0], (ast.Tuple, ast.List), place)
        if isinstance(node, ast.Compare) and isinstance(node.ops[0], (ast.Is, ast.IsNot)):
            self.assertIn(getattr(node.comparators[0], "value", 0), (None, True, False), place)
        if isinstance(node, (ast.For, ast.While)):
            self.assertEqual(node.orelse, [], place)
        if isinstance(node, (ast.FunctionDef, ast.ClassDef)):
            self.assertEqual(node.decorator_list, [], place)
        if isinstance(node, ast.Call):
            self.assertEqual(node.keywords, [], place)

    def test_names(self):
        given = {name for name in dir(__builtins__) if not name.startswith("_")} if not isinstance(__builtins__, dict) \
            else {name for name in __builtins__ if not name.startswith("_")}
        for path, tree in trees():
            top = self.top_names(path, tree)
            for node in ast.walk(tree):
                for name in self.bound(node):
                    self.assertRegex(name, r"\A[A-Za-z][A-Za-z0-9_]*\Z|\A__init__\Z", path.name)
                    self.assertNotIn(name, given, path.name)
                if isinstance(node, ast.Name) and isinstance(node.ctx, ast.Load) and node.id in given:
                    self.assertIn(node.id, OWN_NAMES, path.name)
                if isinstance(node, ast.FunctionDef):
                    for inner in ast.walk(node):
                        if inner is not node:
                            for name in self.bound(inner):
                                self.assertNotIn(name, top, (path.name, node.name))
                if isinstance(node, ast.Call) and isinstance(node.func, ast.Attribute):
                    self.assertIn(node.func.attr, METHODS + self.own_methods(), path.name)

    def own_methods(self):
        classes = [node for path, tree in trees() for node in tree.body if isinstance(node, ast.ClassDef)]
        return [one.name for node in classes for one in node.body if isinstance(one, ast.FunctionDef)]

    def test_methods_and_values_of_objects(self):
        """Their names are free ones, and none is a method here and a value there."""
        methods = [name for name in self.own_methods() if name != "__init__"]
        values = {node.attr for path, tree in trees() for node in ast.walk(tree)
                  if isinstance(node, ast.Attribute) and isinstance(node.ctx, ast.Store)}
        self.assertEqual(values & set(methods), set())
        for name in values | set(methods):
            for one in (0, "", [], (), {}, set(), b""):
                self.assertFalse(hasattr(one, name), name)

    def bound(self, node):
        if isinstance(node, ast.Name) and isinstance(node.ctx, ast.Store):
            return [node.id]
        if isinstance(node, ast.arg):
            return [node.arg]
        if isinstance(node, (ast.FunctionDef, ast.ClassDef)):
            return [node.name]
        return []

    def top_names(self, path, tree):
        """What a file binds at its top: each name once, and only by what may stand there."""
        names = []
        for node in tree.body:
            self.assertIsInstance(node, (ast.Expr, ast.ImportFrom, ast.FunctionDef, ast.ClassDef, ast.Assign), path.name)
            if isinstance(node, ast.ImportFrom):
                names += [one.name for one in node.names]
            elif isinstance(node, ast.Assign):
                names.append(node.targets[0].id)
            elif isinstance(node, (ast.FunctionDef, ast.ClassDef)):
                names.append(node.name)
        self.assertEqual(len(names), len(set(names)), path.name)
        return names

    def test_imports(self):
        draws = {}
        for path, tree in trees():
            own = [node for node in ast.walk(tree) if isinstance(node, ast.ImportFrom)]
            draws[path.stem] = [node.module.partition(".")[2] for node in own]
            used = {node.id for node in ast.walk(tree) if isinstance(node, ast.Name)}
            for node in own:
                self.assertEqual((node.module.split(".")[0], node.level), ("bitfloats", 0))
                there = ast.parse((PACKAGE / (node.module.split(".")[1] + ".py")).read_text())
                defined = [name for one in there.body for name in self.defined(one)]
                for one in node.names:
                    self.assertIsNone(one.asname)
                    self.assertIn(one.name, defined, path.name)
                    self.assertIn(one.name, used, path.name)
        while draws:
            free = [name for name in draws if not any(other in draws for other in draws[name])]
            self.assertNotEqual(free, [], "files that draw from one another")
            for name in free:
                draws.pop(name)

    def defined(self, node):
        if isinstance(node, ast.Assign):
            return [node.targets[0].id]
        return self.bound(node)
