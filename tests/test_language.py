"""The package's files keep to those rules of LANGUAGE.md that can be read off their text with little work."""

import ast
import builtins
import pathlib
import re
import unittest

PACKAGE = pathlib.Path(__file__).resolve().parent.parent / "costorder"

NODES = set("""
Module FunctionDef ClassDef Lambda arguments arg Assign AugAssign If While For Return Break Continue Pass Raise Try
ExceptHandler Expr ImportFrom alias Name Load Store Constant List Tuple Dict Set Attribute Subscript Slice Call keyword
BinOp Add Sub Mult FloorDiv Mod Pow BitAnd BitOr BitXor LShift RShift UnaryOp USub UAdd Not Invert BoolOp And Or
Compare Eq NotEq Lt LtE Gt GtE Is IsNot In NotIn IfExp ListComp comprehension JoinedStr FormattedValue
""".split())

OWN_NAMES = set("""
len range enumerate zip min max sum abs sorted reversed int str bool list tuple dict set frozenset isinstance ord repr
any all divmod Exception ValueError TypeError KeyError IndexError LookupError ZeroDivisionError ArithmeticError
OverflowError RuntimeError NotImplementedError AttributeError StopIteration
""".split())

OWN_METHODS = set("""
append clear copy count endswith extend find get index insert isalnum isalpha isdigit islower isspace isupper items
join keys ljust lower lstrip partition pop remove replace reverse rfind rjust rpartition rsplit rstrip setdefault split
splitlines startswith strip update upper values zfill bit_length
""".split())

OUT_WORDS = re.compile(r"\b(type|typing|typing_extensions|enum|Enum|IntEnum|StrEnum|Flag|IntFlag|Generic|Protocol|ABC"
                       r"|ABCMeta|namedtuple|NamedTuple|TypedDict|TYPE_CHECKING|abstractmethod)\b"
                       r"|dataclass|overload|contextmanager")

METHODS_OF_TWO = ("__init__", "__eq__", "__repr__", "__str__", "__len__")


def bound_names(tree):
    for node in ast.walk(tree):
        if isinstance(node, ast.Name) and isinstance(node.ctx, ast.Store):
            yield node.id
        elif isinstance(node, ast.arg):
            yield node.arg
        elif isinstance(node, ast.ExceptHandler) and node.name is not None:
            yield node.name
        elif isinstance(node, (ast.FunctionDef, ast.ClassDef)):
            yield node.name


def row_faults(text):
    rows = text.split("\n")
    if len(rows) > 401:
        yield "L10: more than 400 rows"
    for number, row in enumerate(rows, 1):
        if len(row) > 120:
            yield f"L10: row {number} is too long"
        if not all(" " <= sign <= "~" for sign in row):
            yield f"L14: row {number} has another sign"
        if OUT_WORDS.search(row):
            yield f"L17: row {number} has a word that stands nowhere"


def node_faults(tree):
    docstring = tree.body[0] if ast.get_docstring(tree) is not None else None
    for node in ast.walk(tree):
        where = f"row {getattr(node, 'lineno', '?')}"
        if type(node).__name__ not in NODES:
            yield f"L6, L7: {where} has a {type(node).__name__}"
        if isinstance(node, ast.FunctionDef) and node.end_lineno - node.lineno >= 40:
            yield f"L10: {node.name} is too long"
        if isinstance(node, (ast.FunctionDef, ast.ClassDef)) and node.decorator_list:
            yield f"L4, L5: {node.name} has a decorator"
        if isinstance(node, ast.Assign) and len(node.targets) > 1:
            yield f"L6: {where} has two targets"
        if isinstance(node, (ast.For, ast.While, ast.Try)) and (getattr(node, "finalbody", []) or
                                                               (node.orelse and not isinstance(node, ast.Try))):
            yield f"L6: {where} has an else behind a loop or a finally"
        if isinstance(node, ast.Expr) and node is not docstring and not isinstance(node.value, ast.Call):
            yield f"L6: {where} is neither a call nor the file's docstring"
        if isinstance(node, ast.Constant) and isinstance(node.value, (float, complex, bytes)):
            yield f"L7: {where} has a value that is not whole"
        if isinstance(node, ast.Constant) and isinstance(node.value, str) and "%" in node.value:
            yield f"L27: {where} has a sign of hundredths in a text"
        if isinstance(node, ast.ImportFrom) and (node.level or not node.module.startswith("costorder.")
                                                 or node not in tree.body):
            yield f"L2, L16: {where} draws from elsewhere"
        if isinstance(node, ast.ListComp) and (len(node.generators) > 1 or len(node.generators[0].ifs) > 1):
            yield f"L7: {where} has a comprehension with more than one for or if"
        if isinstance(node, ast.FormattedValue) and (not isinstance(node.value, ast.Name) or node.format_spec):
            yield f"L7: {where} has more than a name in the braces"
        if isinstance(node, ast.Compare):
            for sign, value in zip(node.ops, node.comparators):
                if isinstance(sign, (ast.Is, ast.IsNot)) and ast.unparse(value) not in ("None", "True", "False"):
                    yield f"L20: {where} has an is beside another value"


def name_faults(tree, methods):
    bound = set(bound_names(tree))
    drawn = {name.name for node in ast.walk(tree) if isinstance(node, ast.ImportFrom) for name in node.names}
    classes = [node for node in tree.body if isinstance(node, ast.ClassDef)]
    inside = {part.name for node in classes for part in node.body if isinstance(part, ast.FunctionDef)}
    for name in bound:
        if name.startswith("_") and name not in METHODS_OF_TWO or not re.fullmatch("[A-Za-z0-9_]+", name):
            yield f"L12: {name}"
        if hasattr(builtins, name) and name not in inside:
            yield f"L15: {name} is a name of Python's own"
    for node in ast.walk(tree):
        if isinstance(node, ast.Name) and node.id not in bound | drawn | OWN_NAMES:
            yield f"L8: {node.id} in row {node.lineno}"
        if isinstance(node, ast.Call) and isinstance(node.func, ast.Attribute):
            if node.func.attr not in OWN_METHODS | methods | set(METHODS_OF_TWO):
                yield f"L25: {node.func.attr} in row {node.lineno}"


def top_names(tree):
    """The names that a file itself binds at its top."""
    for node in tree.body:
        if isinstance(node, (ast.FunctionDef, ast.ClassDef)):
            yield node.name
        elif isinstance(node, ast.Assign):
            yield node.targets[0].id


def drawn_from(tree):
    return [(node.module.removeprefix("costorder."), [name.name for name in node.names])
            for node in tree.body if isinstance(node, ast.ImportFrom)]


def in_a_ring(files, first):
    """Whether a file draws from itself, in whatever many steps."""
    seen, waiting = set(), [first]
    while waiting:
        for module, names in drawn_from(files[waiting.pop()]):
            if module == first:
                return True
            if module not in seen:
                seen.add(module)
                waiting.append(module)
    return False


def package_faults(files):
    for name, tree in files.items():
        bound = list(top_names(tree))
        if len(set(bound)) < len(bound):
            yield f"L15: {name} binds a name twice"
        if in_a_ring(files, name):
            yield f"L16: {name} draws from itself"
        for module, names in drawn_from(tree):
            if not set(names) <= set(top_names(files[module])):
                yield f"L16: {name} draws from {module} what is not defined there"
    methods, values = set(), set()
    for tree in files.values():
        for node in ast.walk(tree):
            if isinstance(node, ast.ClassDef):
                methods |= {part.name for part in node.body if isinstance(part, ast.FunctionDef)}
            if isinstance(node, ast.Attribute) and isinstance(node.ctx, ast.Store):
                values.add(node.attr)
    for name in sorted(methods & values):
        yield f"L18: {name} is a method and a value"


class Language(unittest.TestCase):
    def test_the_files(self):
        for path in PACKAGE.iterdir():
            if path.name != "__pycache__":
                self.assertRegex(path.name, r"^[a-z0-9_]+\.py$")
        self.assertTrue((PACKAGE / "__init__.py").is_file())

    def test_each_file(self):
        trees = {path: ast.parse(path.read_text(encoding="utf-8")) for path in sorted(PACKAGE.glob("*.py"))}
        methods = {part.name for tree in trees.values() for node in ast.walk(tree) if isinstance(node, ast.ClassDef)
                   for part in node.body if isinstance(part, ast.FunctionDef)}
        for path, tree in trees.items():
            with self.subTest(path.name):
                found = list(row_faults(path.read_text(encoding="utf-8"))) + list(node_faults(tree))
                self.assertEqual(found + list(name_faults(tree, methods)), [])
        self.assertEqual(list(package_faults({path.stem: tree for path, tree in trees.items()})), [])


if __name__ == "__main__":
    unittest.main()
