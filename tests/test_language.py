"""The package keeps to its small part of Python, as far as a look at the code's tree can tell."""

import ast
import builtins
import pathlib
import re
import tempfile
import unittest

ROOT = pathlib.Path(__file__).resolve().parent.parent
PACKAGE = ROOT / "formturn"

NODES = """Module ImportFrom alias FunctionDef arguments arg ClassDef Assign AugAssign If While For Return Break
Continue Pass Raise Try ExceptHandler Expr Constant Name Load Store List Tuple Dict Set BinOp UnaryOp BoolOp Compare
IfExp Call keyword Attribute Subscript Slice ListComp comprehension JoinedStr FormattedValue Lambda
Add Sub Mult FloorDiv Mod Pow LShift RShift BitOr BitXor BitAnd Invert Not UAdd USub And Or
Eq NotEq Lt LtE Gt GtE Is IsNot In NotIn""".split()

BUILTINS = """len range enumerate zip min max sum abs sorted reversed int str bool list tuple dict set frozenset
isinstance ord repr any all divmod Exception ValueError TypeError KeyError IndexError LookupError ZeroDivisionError
ArithmeticError OverflowError RuntimeError NotImplementedError AttributeError StopIteration""".split()

METHODS = """append clear copy count endswith extend find get index insert isalnum isalpha isdigit islower isspace
isupper items join keys ljust lower lstrip partition pop remove replace reverse rfind rjust rpartition rsplit rstrip
setdefault split splitlines startswith strip update upper values zfill bit_length""".split()

DUNDERS = ["__init__", "__eq__", "__repr__", "__str__", "__len__", "__all__", "__version__"]

NEVER_NAMES = """register mro elements open input version_info with_traceback add_note attrgetter breakpoint builtins
compile copyright credits delattr dir eval exec exit gc getattr globals hasattr help id importlib license locals
methodcaller os quit setattr super type vars sys chr print""".split()

NEVER_WORDS = re.compile(
    r"\b(type|typing|typing_extensions|enum|Enum|IntEnum|StrEnum|Flag|IntFlag|Generic|Protocol|ABC|ABCMeta|namedtuple"
    r"|NamedTuple|TypedDict|TYPE_CHECKING|abstractmethod)\b|dataclass|overload|contextmanager")


def faults_of_text(text):
    found = []
    if re.search(r"[^ -~\n]", text):
        found.append("L14: a sign outside the blank to ~")
    lines = text.split("\n")
    if len(lines) > 401:
        found.append("L10: a file of more than 400 lines")
    for number, line in enumerate(lines, start=1):
        if len(line) > 120:
            found.append(f"L10: line {number} is too long")
        if NEVER_WORDS.search(line):
            found.append(f"L17: line {number} holds a word that stands nowhere")
    return found


def faults_of_names(node):
    names = []
    if isinstance(node, ast.Name):
        names = [node.id]
    elif isinstance(node, (ast.FunctionDef, ast.ClassDef)):
        names = [node.name]
    elif isinstance(node, ast.arg):
        names = [node.arg]
    elif isinstance(node, ast.ExceptHandler) and node.name:
        names = [node.name]
    elif isinstance(node, ast.Attribute):
        names = [node.attr]
    found = []
    for name in names:
        if not re.fullmatch(r"[A-Za-z][A-Za-z0-9_]*", name) and name not in DUNDERS:
            found.append(f"L12: the name {name}")
        if name in NEVER_NAMES:
            found.append(f"L17: the name {name}")
    if isinstance(node, ast.Name) and isinstance(node.ctx, ast.Load):
        if node.id in vars(builtins) and node.id not in BUILTINS:
            found.append(f"L8: the built-in name {node.id}")
    bound = isinstance(node, (ast.FunctionDef, ast.ClassDef, ast.arg, ast.ExceptHandler))
    if bound or isinstance(node, ast.Name) and isinstance(node.ctx, ast.Store):
        found += [f"L15: {name} is bound anew" for name in names if name in vars(builtins)]
    return found


def faults_of_function(node):
    arguments = node.args
    found = []
    if arguments.vararg or arguments.kwarg or arguments.kwonlyargs or arguments.posonlyargs:
        found.append("L4: other than plain parameters")
    if isinstance(node, ast.FunctionDef):
        if node.decorator_list:
            found.append("L4: a decorator")
        if node.end_lineno - node.lineno + 1 > 40:
            found.append("L10: a function of more than 40 lines")
        if node.returns or any(one.annotation for one in arguments.args):
            found.append("L21: an annotation")
    return found


def faults_of_statement(node):
    # "One target" is taken at its strictest: a row of names on the left counts as several.
    if isinstance(node, ast.Assign) and (len(node.targets) > 1 or isinstance(node.targets[0], (ast.Tuple, ast.List))):
        return ["L6: more than one target"]
    if isinstance(node, (ast.For, ast.While)) and node.orelse:
        return ["L6: else behind a loop"]
    if isinstance(node, ast.Try) and node.finalbody:
        return ["L6: finally"]
    if isinstance(node, ast.ExceptHandler):
        taken = ast.unparse(node.type) if node.type else "all"
        if taken in ("all", "Exception", "TypeError"):
            return [f"L19: except of {taken}"]
    if isinstance(node, ast.Raise) and not isinstance(node.exc, ast.Call):
        return ["L19: raise that does not make its error"]
    if isinstance(node, ast.ClassDef):
        plain = all(isinstance(row, (ast.FunctionDef, ast.Pass)) for row in node.body)
        if not plain or len(node.bases) > 1 or node.keywords or node.decorator_list:
            return ["L5: other than a plain class"]
    if isinstance(node, ast.Expr) and not isinstance(node.value, ast.Call):
        return ["L6: a value by itself"]
    return []


def faults_of_value(node):
    if isinstance(node, ast.Constant):
        if node.value is not None and not isinstance(node.value, (int, str)):
            return ["L7: a value of another kind"]
        if isinstance(node.value, str) and "%" in node.value:
            return ["L27: the sign of the remainder in a text"]
    if isinstance(node, ast.comprehension) and len(node.ifs) > 1:
        return ["L7: more than one if"]
    if isinstance(node, ast.ListComp) and len(node.generators) > 1:
        return ["L7: more than one for"]
    if isinstance(node, ast.FormattedValue) and not isinstance(node.value, ast.Name):
        return ["L7: other than a plain name in an f-string"]
    if isinstance(node, ast.Compare):
        for operator, right in zip(node.ops, node.comparators):
            plain = isinstance(right, ast.Constant) and (right.value is None or isinstance(right.value, bool))
            if isinstance(operator, (ast.Is, ast.IsNot)) and not plain:
                return ["L20: is beside another value"]
    if isinstance(node, ast.BinOp) and isinstance(node.op, ast.Pow):
        if not isinstance(node.right, ast.Constant) or node.right.value not in range(65):
            return ["L27: an exponent that is not written"]
    return []


def faults_of_imports(tree):
    found = []
    for node in ast.walk(tree):
        if isinstance(node, ast.ImportFrom):
            own = node.level == 0 and re.fullmatch(r"formturn\.[a-z0-9_]+", node.module or "")
            if not own or any(name.name == "*" for name in node.names) or node not in tree.body:
                found.append("L2: an import of another form")
    return found


def faults_of_top(tree):
    found = []
    bound = []
    for place, node in enumerate(tree.body):
        docstring = place == 0 and isinstance(node, ast.Expr) and isinstance(node.value, ast.Constant)
        if not docstring and not isinstance(node, (ast.ImportFrom, ast.FunctionDef, ast.ClassDef, ast.Assign)):
            found.append("L3: something else at the top")
        if isinstance(node, (ast.FunctionDef, ast.ClassDef)):
            bound.append(node.name)
        elif isinstance(node, ast.Assign):
            bound += [target.id for target in node.targets if isinstance(target, ast.Name)]
        elif isinstance(node, ast.ImportFrom):
            bound += [name.asname or name.name for name in node.names]
    found += [f"L15: {name} is bound twice" for name in sorted(set(bound)) if bound.count(name) > 1]
    return found


def parents_of(tree):
    return {child: node for node in ast.walk(tree) for child in ast.iter_child_nodes(node)}


def class_names_of(tree):
    own = [node.name for node in ast.walk(tree) if isinstance(node, ast.ClassDef)]
    drawn = [name.name for node in ast.walk(tree) if isinstance(node, ast.ImportFrom) for name in node.names]
    return own + [name for name in drawn if name[0].isupper() and not name.isupper()]


def faults_of_local_names(tree):
    taken = class_names_of(tree)
    taken += [name.asname or name.name for node in tree.body if isinstance(node, ast.ImportFrom) for name in node.names]
    found = []
    for function in ast.walk(tree):
        if isinstance(function, (ast.FunctionDef, ast.Lambda)):
            for node in ast.walk(function):
                stored = isinstance(node, ast.Name) and isinstance(node.ctx, ast.Store) and node.id
                name = node.arg if isinstance(node, ast.arg) else stored
                if name in taken:
                    found.append(f"L15: the local name {name}")
    return found


def faults_of_class_use(tree):
    names = class_names_of(tree)
    parents = parents_of(tree)
    found = []
    for node in ast.walk(tree):
        if isinstance(node, ast.Name) and node.id in names:
            above = parents[node]
            above = parents[above] if isinstance(above, ast.Tuple) else above
            called = isinstance(above, ast.Call) and (above.func is node or ast.unparse(above.func) == "isinstance")
            first = isinstance(above, ast.Attribute) and above.attr == "__init__"
            if not (called or first or isinstance(above, (ast.ClassDef, ast.ExceptHandler))):
                found.append(f"L18: the class {node.id}")
    return found


WALKED = ["zip", "enumerate", "reversed", "range"]
WALKED_METHODS = ["items", "keys", "values"]
WALKERS = ["list", "tuple", "dict", "sorted", "sum", "any", "all", "enumerate", "zip", "min", "max"]
KEYWORDS = {"sorted": ["key", "reverse"], "min": ["key", "default"], "max": ["key", "default"], "sum": ["start"],
            "enumerate": ["start"], "zip": ["strict"]}


def is_call_of(node, names, methods=()):
    if not isinstance(node, ast.Call):
        return False
    if isinstance(node.func, ast.Attribute):
        return node.func.attr in methods
    return isinstance(node.func, ast.Name) and node.func.id in names


def faults_of_calls(tree):
    parents = parents_of(tree)
    found = []
    for node in ast.walk(tree):
        if is_call_of(node, WALKED, WALKED_METHODS):
            above = parents[node]
            looped = isinstance(above, (ast.For, ast.comprehension)) and above.iter is node
            joined = is_call_of(above, [], ["join"]) and isinstance(above.func.value, ast.Constant)
            if not (looped or joined or is_call_of(above, WALKERS)):
                found.append(f"L23: {ast.unparse(node)} is kept")
        if is_call_of(node, ["set", "frozenset"]) or isinstance(node, ast.Set):
            if not (isinstance(parents[node], (ast.Compare, ast.BinOp)) or is_call_of(parents[node], ["sorted", "len"])):
                found.append("L24: a set is kept")
        if isinstance(node, ast.Call):
            own = node.func.id if isinstance(node.func, ast.Name) else node.func.attr
            if node.keywords and (own in METHODS or own in BUILTINS):
                found += [f"L22: the keyword {one.arg}" for one in node.keywords if one.arg not in KEYWORDS.get(own, [])]
    return found


def faults_of_code(text, own_methods=()):
    tree = ast.parse(text)
    found = faults_of_text(text) + faults_of_imports(tree) + faults_of_top(tree)
    found += faults_of_local_names(tree) + faults_of_class_use(tree) + faults_of_calls(tree)
    docstring = tree.body[0] if tree.body and ast.get_docstring(tree) is not None else None
    for node in ast.walk(tree):
        if type(node).__name__ not in NODES:
            found.append(f"L6, L7: {type(node).__name__}")
        found += faults_of_names(node) + faults_of_value(node)
        if node is not docstring:
            found += faults_of_statement(node)
        if isinstance(node, (ast.FunctionDef, ast.Lambda)):
            found += faults_of_function(node)
        if isinstance(node, ast.Call) and isinstance(node.func, ast.Attribute):
            if node.func.attr not in METHODS and node.func.attr not in own_methods and node.func.attr != "__init__":
                found.append(f"L25: the method {node.func.attr}")
    return found


def methods_of(texts):
    classes = [node for text in texts for node in ast.walk(ast.parse(text)) if isinstance(node, ast.ClassDef)]
    return [row.name for one in classes for row in one.body if isinstance(row, ast.FunctionDef)]


def faults_of_files(folder):
    found = []
    for path in sorted(folder.iterdir()):
        # Python itself lays its own folder there when the program is run.
        if path.name != "__pycache__" and not re.fullmatch(r"[a-z][a-z0-9_]*\.py|__init__\.py", path.name):
            found.append(f"L1: {path.name}")
        if path.stem in vars(builtins) or re.match(r"tests?$|testing$|test_|site$|conftest$", path.stem):
            found.append(f"L14: {path.name}")
    return found


def drawn_from(text):
    return [node.module.split(".")[1] for node in ast.parse(text).body if isinstance(node, ast.ImportFrom)]


def goes_round(draws):
    # A file is free once all that it draws from is free; what stays draws from itself in some steps.
    free = []
    while True:
        freed = [name for name in draws if name not in free and all(one in free for one in draws[name])]
        if not freed:
            return sorted(name for name in draws if name not in free)
        free += freed


class ThePackage(unittest.TestCase):
    def test_its_files(self):
        self.assertEqual(faults_of_files(PACKAGE), [])
        self.assertTrue((PACKAGE / "__init__.py").is_file())

    def test_its_code(self):
        texts = {path.name: path.read_text(encoding="utf-8") for path in sorted(PACKAGE.glob("*.py"))}
        self.assertIn("forms.py", texts)
        for name, text in texts.items():
            with self.subTest(file=name):
                self.assertEqual(faults_of_code(text, methods_of(texts.values())), [])

    def test_no_two_files_draw_from_one_another(self):
        draws = {path.stem: drawn_from(path.read_text(encoding="utf-8")) for path in PACKAGE.glob("*.py")}
        self.assertEqual(draws["__init__"], [])
        self.assertEqual(goes_round(draws), [])


class TheLook(unittest.TestCase):
    def assert_found(self, text, rule):
        found = faults_of_code(text)
        self.assertTrue([fault for fault in found if rule in fault], (text, found))

    def test_it_finds_what_is_outside_the_rules(self):
        for text, rule in [
            ("import math\n", "L3"), ("from math import gcd\n", "L2"), ("from .errors import NotAForm\n", "L2"),
            ("from formturn.errors import *\n", "L2"), ("print(1)\n", "L3"), ("x = 1\nx = 2\n", "L15"),
            ("def f(*rest):\n    pass\n", "L4"), ("def f(a, *, b):\n    pass\n", "L4"),
            ("def f(a: int):\n    pass\n", "L21"), ("class A(B, C):\n    pass\n", "L5"),
            ("class A:\n    x = 1\n", "L5"), ("def f():\n    a = b = 1\n", "L6"), ("def f():\n    a, b = 1, 2\n", "L6"),
            ("def f():\n    for a in b:\n        pass\n    else:\n        pass\n", "L6"),
            ("def f():\n    yield 1\n", "L6"), ("def f():\n    assert True\n", "L6"),
            ("def f():\n    return 1 / 2\n", "L7"), ("def f():\n    return 1.5\n", "L7"),
            ("def f(a):\n    return {b for b in a}\n", "L7"), ("def f(a):\n    return all(b for b in a)\n", "L7"),
            ("def f(a):\n    return f'{a + 1}'\n", "L7"), ("def f(a):\n    return hash(a)\n", "L8"),
            ("def f(a):\n    return getattr(a, 'b')\n", "L17"), ("x = 1\n" * 401, "L10"),
            ("x = '" + "a" * 120 + "'\n", "L10"), ("def f():\n" + "    pass\n" * 40, "L10"),
            ("def _f():\n    pass\n", "L12"), ("# \u00e9\n", "L14"), ("x = 1\n\tpass\n".replace("\n\tpass", "\t"), "L14"),
            ("def f(hash):\n    pass\n", "L15"), ("# a type\n", "L17"), ("x = 'an enum'\n", "L17"),
            ("def f():\n    try:\n        g()\n    except Exception:\n        pass\n", "L19"),
            ("def f():\n    raise ValueError\n", "L19"), ("def f(a, b):\n    return a is b\n", "L20"),
            ("def f(a):\n    return a.title()\n", "L25"), ("def f(a):\n    return 2 ** a\n", "L27"),
            ("x = 'a % b'\n", "L27"),
            ("from formturn.forms import worth\n\n\ndef f(worth):\n    return worth\n", "L15"),
            ("from formturn.forms import worth\n\n\ndef f():\n    worth = 1\n    return worth\n", "L15"),
            ("class A:\n    pass\n\n\ndef f():\n    return [A]\n", "L18"),
            ("from formturn.errors import NoBar\n\n\ndef f():\n    return NoBar\n", "L18"),
            ("class A:\n    pass\n\n\ndef f(a):\n    return A.told(a)\n", "L18"),
            ("def f(a):\n    b = range(a)\n    return b\n", "L23"), ("def f(a):\n    return a.items()\n", "L23"),
            ("def f(a):\n    return zip(a, a)\n", "L23"), ("def f(a):\n    b = set(a)\n    return b\n", "L24"),
            ("def f(a):\n    return {1, 2}\n", "L24"), ("def f(a):\n    return int(a, base=2)\n", "L22"),
            ("def f(a):\n    return a.split(sep=';')\n", "L22"), ("def f(a):\n    return sorted(a, cmp=1)\n", "L22"),
        ]:
            with self.subTest(text=text[:60]):
                self.assert_found(text, rule)

    def test_it_finds_nothing_in_what_keeps_to_them(self):
        text = ('"""A file."""\n\nfrom formturn.errors import NotAForm\n\nNAMES = ("a", "b")\n\n\n'
                "class Kept(Base):\n    def __init__(self, numbers):\n        self.numbers = numbers\n\n\n"
                "def f(a, b=1):\n    # Why.\n    for k, one in enumerate(a):\n        if one is None or one % 2 == k:\n"
                "            raise NotAForm(f'{one}')\n    return [x ** 2 for x in a if x in NAMES]\n\n\n"
                "def g(a):\n    try:\n        return ''.join(reversed(sorted(set(a), key=len)))\n    except NotAForm:\n"
                "        return list(a.items()) if isinstance(a, Kept) else Kept(a)\n")
        self.assertEqual(faults_of_code(text), [])

    def test_it_finds_files_that_do_not_belong(self):
        with tempfile.TemporaryDirectory() as folder:
            for name in ["__init__.py", "forms.py", "Forms.py", "notes.txt", "sum.py", "test_forms.py"]:
                (pathlib.Path(folder) / name).write_text("")
            self.assertEqual(faults_of_files(pathlib.Path(folder)),
                             ["L1: Forms.py", "L1: notes.txt", "L14: sum.py", "L14: test_forms.py"])

    def test_it_finds_files_that_draw_from_one_another(self):
        self.assertEqual(goes_round({"a": ["b"], "b": ["c"], "c": []}), [])
        self.assertEqual(goes_round({"a": ["b"], "b": ["c"], "c": ["b"], "d": []}), ["a", "b", "c"])


if __name__ == "__main__":
    unittest.main()
