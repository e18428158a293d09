"""The package's files keep to the rules of LANGUAGE.md, in so far as these can be read off their text.

Where a rule leaves a way open that the package does not go, the check here may be narrower than the rule.
"""

import ast
import builtins
import pathlib
import re
import unittest

PACKAGE = pathlib.Path(__file__).resolve().parent.parent / "costorder"

NODES = set("""
Module FunctionDef ClassDef Lambda arguments arg Assign AugAssign If While For Return Break Continue Pass Raise Try
ExceptHandler Expr ImportFrom alias Name Load Store Constant List Tuple Dict Set Attribute Subscript Slice Call keyword
BinOp Add Sub Mult FloorDiv Mod Pow BitAnd BitOr BitXor LShift RShift UnaryOp USub UAdd Not Invert BoolOp And Or
Compare Eq NotEq Lt LtE Gt GtE Is IsNot In NotIn IfExp ListComp comprehension JoinedStr FormattedValue
""".split())

OWN_NAMES = set("""
len range enumerate zip min max sum abs sorted reversed int str bool list tuple dict set frozenset isinstance ord repr
any all divmod Exception ValueError TypeError KeyError IndexError LookupError ZeroDivisionError ArithmeticError
OverflowError RuntimeError NotImplementedError AttributeError StopIteration
""".split())

OWN_METHODS = set("""
append clear copy count endswith extend find get index insert isalnum isalpha isdigit islower isspace isupper items
join keys ljust lower lstrip partition pop remove replace reverse rfind rjust rpartition rsplit rstrip setdefault split
splitlines startswith strip update upper values zfill bit_length
""".split())

OUT_WORDS = re.compile(r"\b(type|typing|typing_extensions|enum|Enum|IntEnum|StrEnum|Flag|IntFlag|Generic|Protocol|ABC"
                       r"|ABCMeta|namedtuple|NamedTuple|TypedDict|TYPE_CHECKING|abstractmethod)\b"
                       r"|dataclass|overload|contextmanager")

NAMES_NOT_USED = set("""
register mro elements open input version_info with_traceback add_note attrgetter breakpoint builtins compile copyright
credits delattr dir eval exec exit gc getattr globals hasattr help id importlib license locals methodcaller os quit
setattr super sys vars format format_map
""".split())

FILES_NOT_USED = set("test tests testing site conftest sitecustomize usercustomize".split())

KEYWORDS = {"sorted": ("key", "reverse"), "min": ("key", "default"), "max": ("key", "default"), "sum": ("start",),
            "enumerate": ("start",), "zip": ("strict",)}

WALKED = ("zip", "enumerate", "reversed", "range", "items", "keys", "values")
WALKERS = ("list", "tuple", "dict", "sorted", "sum", "any", "all", "enumerate", "zip", "min", "max", "join")
READERS = ("len", "list", "tuple", "dict", "sorted", "sum", "min", "max", "any", "all")

VALUES_OF_OWN = {name for kind in (str, int, list, dict, set, bytes, tuple) for name in dir(kind)} - set(
    "count index title find get join lower upper split strip copy add".split())

METHODS_OF_TWO = ("__init__", "__eq__", "__repr__", "__str__", "__len__")


def bound_names(tree):
    for node in ast.walk(tree):
        if isinstance(node, ast.Name) and isinstance(node.ctx, ast.Store):
            yield node.id
        elif isinstance(node, ast.arg):
            yield node.arg
        elif isinstance(node, ast.ExceptHandler) and node.name is not None:
            yield node.name
        elif isinstance(node, (ast.FunctionDef, ast.ClassDef)):
            yield node.name


def row_faults(text):
    rows = text.split("\n")
    if len(rows) > 401:
        yield "L10: more than 400 rows"
    for number, row in enumerate(rows, 1):
        if len(row) > 120:
            yield f"L10: row {number} is too long"
        if not all(" " <= sign <= "~" for sign in row):
            yield f"L14: row {number} has another sign"
        if OUT_WORDS.search(row):
            yield f"L17: row {number} has a word that stands nowhere"


def node_faults(tree):
    docstring = tree.body[0] if ast.get_docstring(tree) is not None else None
    for node in ast.walk(tree):
        where = f"row {getattr(node, 'lineno', '?')}"
        if type(node).__name__ not in NODES:
            yield f"L6, L7: {where} has a {type(node).__name__}"
        if isinstance(node, ast.FunctionDef) and node.end_lineno - node.lineno >= 40:
            yield f"L10: {node.name} is too long"
        if isinstance(node, (ast.FunctionDef, ast.ClassDef)) and node.decorator_list:
            yield f"L4, L5: {node.name} has a decorator"
        if isinstance(node, ast.Assign) and len(node.targets) > 1:
            yield f"L6: {where} has two targets"
        if isinstance(node, (ast.For, ast.While, ast.Try)) and (getattr(node, "finalbody", []) or
                                                               (node.orelse and not isinstance(node, ast.Try))):
            yield f"L6: {where} has an else behind a loop or a finally"
        if isinstance(node, ast.Expr) and node is not docstring and not isinstance(node.value, ast.Call):
            yield f"L6: {where} is neither a call nor the file's docstring"
        if isinstance(node, ast.Constant) and isinstance(node.value, (float, complex, bytes)):
            yield f"L7: {where} has a value that is not whole"
        if isinstance(node, ast.Constant) and isinstance(node.value, str) and "%" in node.value:
            yield f"L27: {where} has a sign of hundredths in a text"
        if isinstance(node, ast.ImportFrom) and (node.level or not node.module.startswith("costorder.")
                                                 or node not in tree.body):
            yield f"L2, L16: {where} draws from elsewhere"
        if isinstance(node, ast.ListComp) and (len(node.generators) > 1 or len(node.generators[0].ifs) > 1):
            yield f"L7: {where} has a comprehension with more than one for or if"
        if isinstance(node, ast.FormattedValue) and (not isinstance(node.value, ast.Name) or node.format_spec):
            yield f"L7: {where} has more than a name in the braces"
        if isinstance(node, ast.Compare):
            for sign, value in zip(node.ops, node.comparators):
                if isinstance(sign, (ast.Is, ast.IsNot)) and ast.unparse(value) not in ("None", "True", "False"):
                    yield f"L20: {where} has an is beside another value"


def name_faults(tree, methods):
    bound = set(bound_names(tree))
    drawn = {name.name for node in ast.walk(tree) if isinstance(node, ast.ImportFrom) for name in node.names}
    classes = [node for node in tree.body if isinstance(node, ast.ClassDef)]
    inside = {part.name for node in classes for part in node.body if isinstance(part, ast.FunctionDef)}
    for name in sorted(bound & drawn):
        yield f"L15: {name} is called like an import"
    for name in bound:
        if name.startswith("_") and name not in METHODS_OF_TWO or not re.fullmatch("[A-Za-z0-9_]+", name):
            yield f"L12: {name}"
        if hasattr(builtins, name) and name not in inside:
            yield f"L15: {name} is a name of Python's own"
    for node in ast.walk(tree):
        if isinstance(node, ast.Name) and node.id not in bound | drawn | OWN_NAMES:
            yield f"L8: {node.id} in row {node.lineno}"
        if isinstance(node, ast.Call) and isinstance(node.func, ast.Attribute):
            if node.func.attr not in OWN_METHODS | methods | set(METHODS_OF_TWO):
                yield f"L25: {node.func.attr} in row {node.lineno}"


def parents_of(tree):
    return {child: node for node in ast.walk(tree) for child in ast.iter_child_nodes(node)}


def called(node):
    """The name under which a call calls, or None."""
    if not isinstance(node, ast.Call):
        return None
    return getattr(node.func, "id", getattr(node.func, "attr", None))


def is_plain(node, functions):
    if isinstance(node, (ast.List, ast.Tuple)):
        return all(is_plain(part, functions) for part in node.elts)
    if isinstance(node, ast.Dict):
        return all(is_plain(part, functions) for part in node.keys + node.values)
    if isinstance(node, ast.UnaryOp):
        return isinstance(node.op, ast.USub) and is_plain(node.operand, functions)
    return isinstance(node, ast.Constant) or isinstance(node, ast.Name) and node.id in functions


def top_faults(tree):
    functions = set()
    for place, node in enumerate(tree.body):
        if isinstance(node, ast.FunctionDef):
            functions.add(node.name)
        elif isinstance(node, ast.Assign):
            if not isinstance(node.targets[0], ast.Name) or not is_plain(node.value, functions):
                yield f"L3: row {node.lineno} gives no plain value"
            if any(isinstance(part, (ast.List, ast.Dict)) for part in ast.walk(node.value) if part is not node.value):
                yield f"L15: row {node.lineno} has a list or dict within"
        elif not isinstance(node, (ast.ImportFrom, ast.ClassDef)) and (place or ast.get_docstring(tree) is None):
            yield f"L3: row {node.lineno} does something"


def kept_faults(tree):
    """L15: a list or dict of a file's top is only read."""
    parents = parents_of(tree)
    tops = {node.targets[0].id for node in tree.body
            if isinstance(node, ast.Assign) and isinstance(node.value, (ast.List, ast.Dict))}
    for node in ast.walk(tree):
        if not isinstance(node, ast.Name) or node.id not in tops or isinstance(node.ctx, ast.Store):
            continue
        above = parents[node]
        read = (isinstance(above, ast.Subscript) and isinstance(above.ctx, ast.Load) and above.value is node
                or isinstance(above, ast.Compare) or called(above) in READERS
                or isinstance(above, (ast.For, ast.comprehension)) and above.iter is node
                or isinstance(above, ast.Attribute) and above.attr in ("get", "items", "keys", "values"))
        if not read:
            yield f"L15: row {node.lineno} does more than read {node.id}"


def def_faults(tree):
    for node in ast.walk(tree):
        if isinstance(node, (ast.FunctionDef, ast.Lambda)):
            given = node.args
            if given.vararg or given.kwarg or given.kwonlyargs or given.posonlyargs:
                yield f"L4: row {node.lineno} has other than plain parameters"
            if not all(isinstance(value, ast.Constant) for value in given.defaults):
                yield f"L4: row {node.lineno} has another default than a plain value"
            if any(part.annotation for part in given.args) or getattr(node, "returns", None):
                yield f"L21: row {node.lineno} has an annotation"
        if isinstance(node, ast.ClassDef):
            yield from class_faults(tree, node)


def class_faults(tree, node):
    methods = [part for part in node.body if isinstance(part, ast.FunctionDef)]
    if node not in tree.body or len(node.bases) > 1 or node.keywords:
        yield f"L5, L15: {node.name} stands within something, or on more than one base"
    if len({part.name for part in methods}) < len(methods):
        yield f"L18: {node.name} has a method twice"
    if any(not isinstance(part, (ast.FunctionDef, ast.Pass)) for part in node.body):
        yield f"L5: {node.name} has a value in its body"
    for part in methods:
        if part.name == "__init__" and any(isinstance(inner, ast.Return) for inner in ast.walk(part)):
            yield f"L28: {node.name} gives something back when it is made"


def error_faults(tree):
    for node in ast.walk(tree):
        if isinstance(node, ast.ExceptHandler):
            named = node.type.elts if isinstance(node.type, ast.Tuple) else [node.type]
            for name in named:
                # Of Python's own only those that may be taken as one likes.
                if not isinstance(name, ast.Name) or (hasattr(builtins, name.id) and name.id not in
                                                      ("KeyError", "ZeroDivisionError", "StopIteration")):
                    yield f"L19: row {node.lineno} takes too much"
        if isinstance(node, ast.Raise) and not isinstance(node.exc, ast.Call):
            yield f"L19: row {node.lineno} does not make its error on the spot"


def call_faults(tree, own_classes):
    parents = parents_of(tree)
    for node in ast.walk(tree):
        above = parents.get(node)
        if isinstance(node, ast.Name) and isinstance(node.ctx, ast.Load):
            used = (isinstance(above, ast.Call) and (above.func is node or called(above) == "isinstance")
                    or isinstance(above, ast.Tuple) and called(parents[above]) == "isinstance"
                    or isinstance(above, (ast.ClassDef, ast.ExceptHandler))
                    or isinstance(above, ast.Attribute) and node.id in own_classes)
            if node.id in OWN_NAMES and not used and not isinstance(above, ast.keyword):
                yield f"L22: row {node.lineno} keeps {node.id}"
            if node.id in own_classes and not used:
                yield f"L18: row {node.lineno} hands {node.id} on"
        if isinstance(node, ast.Call) and node.keywords:
            if not {part.arg for part in node.keywords} <= set(KEYWORDS.get(called(node), ())):
                yield f"L22: row {node.lineno} has a keyword"
        if called(node) in WALKED and not (isinstance(above, (ast.For, ast.comprehension)) or called(above) in WALKERS):
            yield f"L23: row {node.lineno} keeps what is to be walked at once"
        if called(node) in ("set", "frozenset") and not (called(above) in ("len", "sorted")
                                                        or isinstance(above, ast.Compare)):
            yield f"L24: row {node.lineno} keeps a set"
        if isinstance(node, ast.Set):
            yield f"L13, L24: row {node.lineno} writes a set out"
        if isinstance(node, ast.BinOp) and isinstance(node.op, ast.Pow):
            if not isinstance(node.right, ast.Constant) or not 0 <= node.right.value <= 64:
                yield f"L27: row {node.lineno} has an exponent that is not written"


def walk_faults(tree):
    """L23: what a loop walks is not changed in it."""
    for loop in ast.walk(tree):
        if not isinstance(loop, ast.For):
            continue
        walked = {ast.unparse(part) for part in ast.walk(loop.iter) if isinstance(part, (ast.Name, ast.Attribute))}
        if called(loop.iter) == "range":
            walked = set()
        for node in [inner for row in loop.body for inner in ast.walk(row)]:
            if isinstance(node, ast.Subscript) and isinstance(node.ctx, ast.Store) and ast.unparse(node.value) in walked:
                yield f"L23: row {node.lineno} changes what is walked"
            if called(node) in ("append", "clear", "extend", "insert", "pop", "remove", "reverse", "setdefault", "update"):
                if isinstance(node.func, ast.Attribute) and ast.unparse(node.func.value) in walked:
                    yield f"L23: row {node.lineno} changes what is walked"


def attribute_faults(tree, methods, values):
    parents = parents_of(tree)
    for node in ast.walk(tree):
        if isinstance(node, ast.Name) and node.id in NAMES_NOT_USED or (
                isinstance(node, ast.Attribute) and node.attr in NAMES_NOT_USED):
            yield f"L17: row {node.lineno} has a name that is not used"
        if not isinstance(node, ast.Attribute):
            continue
        if isinstance(node.ctx, ast.Store) and node.attr in VALUES_OF_OWN:
            yield f"L26: row {node.lineno} has the value {node.attr}"
        if isinstance(node.ctx, ast.Load) and node.attr not in values and called(parents[node]) != node.attr:
            yield f"L25: row {node.lineno} hands the method {node.attr} on"
    for name in sorted(methods & VALUES_OF_OWN - OWN_METHODS - {"add", "discard"} - set(METHODS_OF_TWO)):
        yield f"L26: {name} is a method"


def top_names(tree):
    """The names that a file itself binds at its top."""
    for node in tree.body:
        if isinstance(node, (ast.FunctionDef, ast.ClassDef)):
            yield node.name
        elif isinstance(node, ast.Assign):
            yield node.targets[0].id


def drawn_from(tree):
    return [(node.module.removeprefix("costorder."), [name.name for name in node.names])
            for node in tree.body if isinstance(node, ast.ImportFrom)]


def in_a_ring(files, first):
    """Whether a file draws from itself, in whatever many steps."""
    seen, waiting = set(), [first]
    while waiting:
        for module, names in drawn_from(files[waiting.pop()]):
            if module == first:
                return True
            if module not in seen:
                seen.add(module)
                waiting.append(module)
    return False


def package_faults(files):
    for name, tree in files.items():
        bound = list(top_names(tree))
        if len(set(bound)) < len(bound):
            yield f"L15: {name} binds a name twice"
        if in_a_ring(files, name):
            yield f"L16: {name} draws from itself"
        for module, names in drawn_from(tree):
            if not set(names) <= set(top_names(files[module])):
                yield f"L16: {name} draws from {module} what is not defined there"
    methods, values = set(), set()
    for tree in files.values():
        for node in ast.walk(tree):
            if isinstance(node, ast.ClassDef):
                methods |= {part.name for part in node.body if isinstance(part, ast.FunctionDef)}
            if isinstance(node, ast.Attribute) and isinstance(node.ctx, ast.Store):
                values.add(node.attr)
    for name in sorted(methods & values):
        yield f"L18: {name} is a method and a value"


def methods_of(trees):
    return {part.name for tree in trees for node in ast.walk(tree) if isinstance(node, ast.ClassDef)
            for part in node.body if isinstance(part, ast.FunctionDef)}


def values_of(trees):
    return {node.attr for tree in trees for node in ast.walk(tree)
            if isinstance(node, ast.Attribute) and isinstance(node.ctx, ast.Store)}


def file_faults(text, trees):
    """The faults of one file's text; `trees` are those of all the package's files."""
    tree = ast.parse(text)
    methods, values = methods_of(trees), values_of(trees)
    classes = {node.name for each in trees for node in each.body if isinstance(node, ast.ClassDef)}
    found = list(row_faults(text))
    for faults in (node_faults, top_faults, kept_faults, def_faults, error_faults, walk_faults):
        found += list(faults(tree))
    found += list(name_faults(tree, methods)) + list(call_faults(tree, classes))
    return found + list(attribute_faults(tree, methods, values))


class Language(unittest.TestCase):
    def test_the_files(self):
        for path in PACKAGE.iterdir():
            if path.name != "__pycache__":
                self.assertRegex(path.name, r"^[a-z0-9_]+\.py$")
                self.assertFalse(path.stem in FILES_NOT_USED or path.stem.startswith("test_"))
                self.assertFalse(path.stem in dir(builtins) or OUT_WORDS.search(path.stem))
        self.assertTrue((PACKAGE / "__init__.py").is_file())

    def test_each_file(self):
        texts = {path: path.read_text(encoding="utf-8") for path in sorted(PACKAGE.glob("*.py"))}
        trees = {path: ast.parse(text) for path, text in texts.items()}
        for path, text in texts.items():
            with self.subTest(path.name):
                self.assertEqual(file_faults(text, list(trees.values())), [])
        self.assertEqual(list(package_faults({path.stem: tree for path, tree in trees.items()})), [])


class TheChecksThemselves(unittest.TestCase):
    def rules(self, text):
        return {rule for fault in file_faults(text, [ast.parse(text)]) for rule in fault.partition(":")[0].split(", ")}

    def test_what_keeps_to_the_rules(self):
        text = ("from costorder.rows import DAY\n\nNAMES = {\"a\": 1}\n\n\nclass Own(ValueError):\n    pass\n\n\n"
                "def one(row, most=3):\n    try:\n        return [NAMES.get(key, DAY) for key in sorted(set(row))]\n"
                "    except Own:\n        raise Own(\"x\") from None\n")
        self.assertEqual(self.rules(text), set())

    def test_what_does_not(self):
        for rule, text in (("L3", "one = len\n"), ("L3", "print(1)\n"), ("L4", "def one(*rows):\n    return rows\n"),
                           ("L4", "def one(row=[]):\n    return row\n"), ("L5", "class One:\n    two = 3\n"),
                           ("L6", "def one(row):\n    with row:\n        pass\n"), ("L7", "def one():\n    return 1 / 2\n"),
                           ("L8", "def one(row):\n    return next(row)\n"), ("L10", "one = 1" + " " * 120 + "\n"),
                           ("L12", "def one(_row):\n    return 1\n"), ("L15", "def one(round):\n    return round\n"),
                           ("L15", "from costorder.rows import DAY\n\ndef one(DAY):\n    return DAY\n"),
                           ("L15", "ROWS = [[1]]\n"), ("L15", "ROWS = [1]\n\ndef one():\n    return ROWS\n"),
                           ("L15", "ROWS = [1]\n\ndef one():\n    ROWS[0] = 2\n"),
                           ("L17", "def one(row):\n    return row.open()\n"), ("L17", "def one(kind):\n    # type\n    pass\n"),
                           ("L18", "class One:\n    pass\n\ndef two():\n    return [One]\n"),
                           ("L19", "def one(row):\n    try:\n        return row\n    except Exception:\n        return 1\n"),
                           ("L19", "def one(row):\n    raise ValueError\n"), ("L20", "def one(row):\n    return row is 1\n"),
                           ("L21", "def one(row: int):\n    return row\n"), ("L22", "def one():\n    return len\n"),
                           ("L22", "def one(row):\n    return dict(row=row)\n"),
                           ("L23", "def one(row):\n    return zip(row, row)\n"),
                           ("L23", "def one(row):\n    for each in row:\n        row.append(each)\n"),
                           ("L24", "def one(row):\n    return set(row)\n"), ("L25", "def one(row):\n    row.sort()\n"),
                           ("L25", "def one(row):\n    return row.append\n"),
                           ("L26", "class One:\n    def __init__(self):\n        self.items = 1\n"),
                           ("L27", "def one(row):\n    return 2 ** row\n"),
                           ("L28", "class One:\n    def __init__(self):\n        return None\n")):
            with self.subTest(text):
                self.assertIn(rule, self.rules(text))


if __name__ == "__main__":
    unittest.main()
