"""That the package keeps to the part of Python it is written in, as far as that is easily seen."""

import ast
import builtins
import pathlib
import re
import unittest

PACKAGE = pathlib.Path(__file__).resolve().parent.parent / "ordersalone"
FILES = sorted(PACKAGE.glob("*.py"))

NODES = {
    "Module", "ImportFrom", "alias", "FunctionDef", "ClassDef", "arguments", "arg", "Lambda",
    "Assign", "AugAssign", "If", "While", "For", "Return", "Break", "Continue", "Pass", "Raise", "Try",
    "ExceptHandler", "Expr", "Constant", "List", "Tuple", "Dict", "BinOp", "UnaryOp", "BoolOp", "Compare", "IfExp",
    "Call", "keyword", "Attribute", "Subscript", "Slice", "ListComp", "comprehension", "JoinedStr", "FormattedValue",
    "Name", "Load", "Store", "Add", "Sub", "Mult", "FloorDiv", "Mod", "BitAnd", "BitOr", "BitXor", "LShift",
    "RShift", "Invert", "USub", "Not", "And", "Or", "Eq", "NotEq", "Lt", "LtE", "Gt", "GtE", "In", "NotIn", "Is",
    "IsNot",
}
OWN_NAMES = set(
    "len range enumerate zip min max sum abs sorted reversed int str bool list tuple dict set isinstance ord repr "
    "any all divmod Exception ValueError TypeError KeyError IndexError LookupError ZeroDivisionError "
    "ArithmeticError OverflowError RuntimeError NotImplementedError StopIteration".split())
METHODS = set(
    "append clear copy count endswith extend find get index insert isalnum isalpha isdigit islower isspace isupper "
    "items join keys ljust lower lstrip partition pop remove replace reverse rfind rjust rpartition rsplit rstrip "
    "setdefault split splitlines startswith strip update upper values zfill bit_length".split())
WORDS = re.compile(
    r"\b(type|typing|typing_extensions|enum|Enum|IntEnum|StrEnum|Flag|IntFlag|Generic|Protocol|ABC|ABCMeta|"
    r"namedtuple|NamedTuple|TypedDict|TYPE_CHECKING|abstractmethod)\b|dataclass|overload|contextmanager")


def names_given(tree):
    """Every name that a file gives a value to, parameters among them."""
    for node in ast.walk(tree):
        if isinstance(node, ast.Name) and isinstance(node.ctx, ast.Store):
            yield node.id
        if isinstance(node, ast.arg):
            yield node.arg


def methods_of(trees):
    return {
        part.name for tree in trees.values() for node in tree.body if isinstance(node, ast.ClassDef)
        for part in node.body if isinstance(part, ast.FunctionDef)
    }


class Language(unittest.TestCase):

    def setUp(self):
        self.texts = {path.name: path.read_text(encoding="utf-8") for path in FILES}
        self.trees = {name: ast.parse(text) for name, text in self.texts.items()}

    def test_files(self):
        found = [path.name for path in PACKAGE.iterdir() if path.name != "__pycache__"]
        self.assertEqual(sorted(found), [path.name for path in FILES])
        self.assertIn("events.py", found)
        for name in found:
            self.assertRegex(name, r"^(__init__|[a-z][a-z0-9_]*)\.py$")
            self.assertFalse(name != "__init__.py" and hasattr(builtins, name[:-3]), name)

    def test_signs_and_sizes(self):
        for name, text in self.texts.items():
            lines = text.split("\n")
            self.assertLessEqual(len(lines), 400, name)
            self.assertTrue(all(len(line) <= 120 for line in lines), name)
            self.assertRegex(text, r"^[ -~\n]*$", name)
            self.assertIsNone(WORDS.search(text), name)
            for node in ast.walk(self.trees[name]):
                if isinstance(node, ast.FunctionDef):
                    self.assertLessEqual(node.end_lineno - node.lineno + 1, 40, node.name)

    def test_parts_of_the_language(self):
        for name, tree in self.trees.items():
            for node in ast.walk(tree):
                self.assertIn(node.__class__.__name__, NODES, (name, getattr(node, "lineno", 0)))
                if isinstance(node, ast.Constant):
                    self.assertIn(node.value.__class__, (int, str, bool, None.__class__))
                if isinstance(node, ast.Assign):
                    self.assertEqual(len(node.targets), 1)
                if isinstance(node, (ast.For, ast.While)):
                    self.assertEqual(node.orelse, [])
                if isinstance(node, ast.ListComp):
                    self.assertEqual(len(node.generators), 1)
                    self.assertLessEqual(len(node.generators[0].ifs), 1)
                if isinstance(node, (ast.FunctionDef, ast.ClassDef)):
                    self.assertEqual(node.decorator_list, [])
                if isinstance(node, ast.FunctionDef):
                    self.assertIsNone(node.returns)
                    self.assertIsNone(node.args.vararg or node.args.kwarg)
                    self.assertEqual(node.args.kwonlyargs + node.args.posonlyargs, [])

    def test_names(self):
        for name, tree in self.trees.items():
            drawn = {
                part.name for node in tree.body if isinstance(node, ast.ImportFrom) for part in node.names
            }
            classes = {node.name for node in tree.body if isinstance(node, ast.ClassDef)}
            for given in names_given(tree):
                self.assertRegex(given, r"^[A-Za-z][A-Za-z0-9_]*$", name)
                self.assertFalse(hasattr(builtins, given), (name, given))
                self.assertNotIn(given, drawn | classes, name)
            for node in ast.walk(tree):
                if isinstance(node, ast.Name) and hasattr(builtins, node.id):
                    self.assertIn(node.id, OWN_NAMES, name)

    def test_methods(self):
        own = methods_of(self.trees)
        for name, tree in self.trees.items():
            for node in ast.walk(tree):
                if isinstance(node, ast.Call) and isinstance(node.func, ast.Attribute):
                    self.assertIn(node.func.attr, METHODS | own, name)
                if isinstance(node, ast.Attribute) and isinstance(node.ctx, ast.Store):
                    self.assertNotIn(node.attr, METHODS | own, name)

    def test_tops(self):
        for name, tree in self.trees.items():
            self.assertIsNotNone(ast.get_docstring(tree), name)
            bound = []
            for node in tree.body[1:]:
                self.assertIsInstance(node, (ast.ImportFrom, ast.FunctionDef, ast.ClassDef, ast.Assign))
                if isinstance(node, ast.ImportFrom):
                    bound.extend(part.name for part in node.names)
                elif isinstance(node, ast.Assign):
                    ast.literal_eval(node.value)
                    bound.append(node.targets[0].id)
                else:
                    bound.append(node.name)
            self.assertEqual(len(bound), len(set(bound)), name)

    def test_imports(self):
        draws = {}
        for name, tree in self.trees.items():
            draws[name] = set()
            for node in ast.walk(tree):
                if isinstance(node, ast.ImportFrom):
                    self.assertEqual(node.level, 0, name)
                    self.assertRegex(node.module, r"^ordersalone\.[a-z_]+$", name)
                    source = node.module.partition(".")[2] + ".py"
                    self.assertIn(source, self.trees, name)
                    draws[name].add(source)
                    self.defined(source, node.names)
        self.no_ring(draws)

    def defined(self, source, parts):
        """The names come from the very file that defines them."""
        own = set()
        for node in self.trees[source].body:
            if isinstance(node, (ast.FunctionDef, ast.ClassDef)):
                own.add(node.name)
            if isinstance(node, ast.Assign):
                own.add(node.targets[0].id)
        for part in parts:
            self.assertIn(part.name, own, source)
            self.assertIsNone(part.asname)

    def no_ring(self, draws):
        left = dict(draws)
        while left:
            free = [name for name, sources in left.items() if not sources & set(left)]
            self.assertTrue(free, sorted(left))
            for name in free:
                left.pop(name)
