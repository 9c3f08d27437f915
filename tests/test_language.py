"""The package keeps to the small part of Python it is written in, as far as a look at its files can tell."""

import ast
import builtins
import pathlib
import re
import unittest

PACKAGE = pathlib.Path(__file__).resolve().parent.parent / "smallcore"

STATEMENTS = (
    ast.Assign, ast.AugAssign, ast.If, ast.While, ast.For, ast.Return, ast.Break, ast.Continue, ast.Pass,
    ast.Raise, ast.Try, ast.Expr, ast.FunctionDef, ast.ClassDef, ast.ImportFrom,
)
EXPRESSIONS = (
    ast.Constant, ast.Name, ast.Attribute, ast.Subscript, ast.Slice, ast.Call, ast.BinOp, ast.UnaryOp, ast.BoolOp,
    ast.Compare, ast.IfExp, ast.List, ast.Tuple, ast.Dict, ast.ListComp, ast.Lambda, ast.JoinedStr,
    ast.FormattedValue,
)
PARTS = (
    ast.Module, ast.arguments, ast.arg, ast.keyword, ast.alias, ast.comprehension, ast.ExceptHandler,
    ast.expr_context, ast.operator, ast.unaryop, ast.boolop, ast.cmpop,
)
OWN_NAMES = """len range enumerate zip min max sum abs sorted reversed int str bool list tuple dict set frozenset
    isinstance ord repr any all divmod Exception ValueError TypeError KeyError IndexError LookupError
    ZeroDivisionError ArithmeticError OverflowError RuntimeError NotImplementedError AttributeError
    StopIteration""".split()
OWN_METHODS = """append clear copy count endswith extend find get index insert isalnum isalpha isdigit islower
    isspace isupper items join keys ljust lower lstrip partition pop remove replace reverse rfind rjust rpartition
    rsplit rstrip setdefault split splitlines startswith strip update upper values zfill bit_length""".split()
UNDERSCORED = ("__init__", "__eq__", "__repr__", "__str__", "__len__")
NOT_USED = """register mro elements open input version_info with_traceback add_note attrgetter breakpoint builtins
    compile copyright credits delattr dir eval exec exit gc getattr globals hasattr help id importlib license locals
    methodcaller os quit setattr super type vars sys __name__ format format_map chr""".split()
NO_WORDS = r"""\b(type|typing|typing_extensions|enum|Enum|IntEnum|StrEnum|Flag|IntFlag|Generic|Protocol|ABC|ABCMeta
    |namedtuple|NamedTuple|TypedDict|TYPE_CHECKING|abstractmethod)\b|dataclass|overload|contextmanager"""
FILE_NAMES_NOT_USED = ("test", "tests", "testing", "site", "conftest", "sitecustomize", "usercustomize")


def look_at_text(text):
    faults = []
    lines = text.split("\n")
    if len(lines) > 401:
        faults.append("L10: a file of over 400 lines")
    for number, line in enumerate(lines, 1):
        if len(line) > 120:
            faults.append("L10: line %d is too long" % number)
        if re.search(r"[^ -~]", line):
            faults.append("L14: a sign in line %d" % number)
        if re.search(NO_WORDS, line, re.VERBOSE):
            faults.append("L17: a word in line %d" % number)
    return faults


def bound_names(tree):
    """Every name that the file gives a meaning to."""
    for node in ast.walk(tree):
        if isinstance(node, (ast.FunctionDef, ast.ClassDef)):
            yield node.name
        elif isinstance(node, ast.arg):
            yield node.arg
        elif isinstance(node, ast.Name) and isinstance(node.ctx, ast.Store):
            yield node.id
        elif isinstance(node, ast.alias):
            yield node.asname or node.name
        elif isinstance(node, ast.ExceptHandler) and node.name:
            yield node.name


def attribute_names(tree):
    """The methods and values that the file's own classes have."""
    yield from method_names(tree)
    yield from value_names(tree)


def look_at_names(tree, attributes):
    faults = []
    bound = set(bound_names(tree))
    methods = {part.name for node in ast.walk(tree) if isinstance(node, ast.ClassDef)
               for part in node.body if isinstance(part, ast.FunctionDef)}
    for name in sorted(bound | attributes):
        if name not in UNDERSCORED and not re.fullmatch(r"[A-Za-z][A-Za-z0-9_]*", name):
            faults.append("L12: the name " + name)
        if name in NOT_USED:
            faults.append("L17: the name " + name)
    for name in sorted(bound - methods):
        if name in vars(builtins):
            faults.append("L15: the name " + name)
    for node in ast.walk(tree):
        if isinstance(node, ast.Name) and node.id not in bound and node.id not in OWN_NAMES:
            faults.append("L8: the name " + node.id)
        if isinstance(node, ast.Attribute) and node.attr not in attributes and node.attr not in OWN_METHODS:
            if not (node.attr == "__init__" and isinstance(node.value, ast.Name)):
                faults.append("L25: the method or value " + node.attr)
    return faults


def look_at_top(tree):
    faults = []
    docstring = ast.get_docstring(tree) is not None
    for node in tree.body[1 if docstring else 0:]:
        if not isinstance(node, (ast.Assign, ast.FunctionDef, ast.ClassDef, ast.ImportFrom)):
            faults.append("L3: line %d" % node.lineno)
        if isinstance(node, ast.Assign) and any(isinstance(part, (ast.Call, ast.ListComp)) for part in ast.walk(node)):
            faults.append("L3: line %d" % node.lineno)
    names = list(bound_names(ast.Module([node for node in tree.body if isinstance(node, ast.Assign)], [])))
    if len(names) != len(set(names)):
        faults.append("L15: a name of the top is bound twice")
    return faults


def method_names(tree):
    for node in ast.walk(tree):
        if isinstance(node, ast.ClassDef):
            yield from (part.name for part in node.body if isinstance(part, ast.FunctionDef))


def value_names(tree):
    for node in ast.walk(tree):
        if isinstance(node, ast.Attribute) and isinstance(node.ctx, ast.Store):
            yield node.attr


def look_at_kept(tree):
    """A list or dict of the top holds none itself and is read by an index, a walk, in, len or get alone."""
    faults = []
    kept = {}
    for node in tree.body:
        if isinstance(node, ast.Assign) and isinstance(node.value, (ast.List, ast.Dict)):
            kept[node.targets[0].id] = node
            if any(isinstance(part, (ast.List, ast.Dict)) for part in ast.walk(node.value) if part is not node.value):
                faults.append("L15: a list or dict within " + node.targets[0].id)
    read = set()
    for node in ast.walk(tree):
        if isinstance(node, ast.Subscript) and isinstance(node.ctx, ast.Load):
            read.add(node.value)
        elif isinstance(node, ast.Compare):
            read.update(node.comparators)
        elif isinstance(node, (ast.For, ast.comprehension)):
            read.add(node.iter)
        elif isinstance(node, ast.Attribute) and node.attr in ("get", "items", "keys", "values", "copy"):
            read.add(node.value)
        elif isinstance(node, ast.Call) and isinstance(node.func, ast.Name) and node.func.id in ("len", "list", "dict"):
            read.update(node.args)
    for node in ast.walk(tree):
        if isinstance(node, ast.Name) and node.id in kept and isinstance(node.ctx, ast.Load) and node not in read:
            faults.append("L15: the use of %s in line %d" % (node.id, node.lineno))
    return faults


def look_at_node(node):
    if not isinstance(node, STATEMENTS + EXPRESSIONS + PARTS):
        return "L6, L7: " + ast.dump(node)[:60]
    if isinstance(node, ast.Constant) and not (node.value is None or isinstance(node.value, (int, str))):
        return "L7: a value"
    if isinstance(node, ast.Div):
        return "L7: a division"
    if isinstance(node, ast.Assign) and (len(node.targets) > 1):
        return "L6: several targets"
    if isinstance(node, (ast.For, ast.While)) and node.orelse:
        return "L6: else behind a loop"
    if isinstance(node, ast.Try) and node.finalbody:
        return "L6: finally"
    if isinstance(node, (ast.FunctionDef, ast.ClassDef)) and node.decorator_list:
        return "L4, L5: a decorator"
    if isinstance(node, ast.FunctionDef) and node.end_lineno - node.lineno >= 40:
        return "L10: a function of over 40 lines"
    if isinstance(node, ast.arguments) and (node.vararg or node.kwarg or node.kwonlyargs or node.posonlyargs):
        return "L4: a parameter"
    if isinstance(node, ast.ClassDef) and (len(node.bases) > 1 or node.keywords):
        return "L5: a base"
    if isinstance(node, ast.ClassDef) and any(isinstance(part, (ast.Assign, ast.AnnAssign)) for part in node.body):
        return "L5: a value in a class"
    if isinstance(node, ast.ImportFrom) and (node.level or not node.module.startswith("smallcore.")):
        return "L2: an import"
    if isinstance(node, ast.alias) and node.name == "*":
        return "L2: an import"
    if isinstance(node, (ast.Compare)) and any(isinstance(op, (ast.Is, ast.IsNot)) for op in node.ops):
        if not all(isinstance(side, ast.Constant) for side in node.comparators):
            return "L20: is"
    if isinstance(node, ast.BinOp) and isinstance(node.op, ast.Pow) and not isinstance(node.right, ast.Constant):
        return "L27: a power"
    return None


def look_at(text, attributes=()):
    """The faults of one file; attributes are those of the classes of other files."""
    tree = ast.parse(text)
    known = set(attributes) | set(attribute_names(tree))
    faults = look_at_text(text) + look_at_top(tree) + look_at_kept(tree) + look_at_names(tree, known)
    return faults + [fault for fault in map(look_at_node, ast.walk(tree)) if fault]


class Package(unittest.TestCase):
    def files(self):
        return [path for path in sorted(PACKAGE.iterdir()) if path.name != "__pycache__"]

    def test_files(self):
        names = [path.name for path in self.files()]
        self.assertIn("__init__.py", names)
        self.assertIn("desk.py", names)
        for path in self.files():
            self.assertTrue(path.is_file() and path.suffix == ".py", path)
            self.assertTrue(path.stem == "__init__" or re.fullmatch(r"[a-z][a-z0-9_]*", path.stem), path)
            self.assertNotIn(path.stem, FILE_NAMES_NOT_USED)
            self.assertFalse(path.stem in vars(builtins) or path.stem.startswith("test_"), path)

    def test_rules(self):
        texts = {path.name: path.read_text(encoding="utf-8") for path in self.files()}
        attributes = {name for text in texts.values() for name in attribute_names(ast.parse(text))}
        for name, text in texts.items():
            self.assertEqual(look_at(text, attributes), [], name)

    def test_no_name_is_a_method_and_a_value(self):
        trees = [ast.parse(path.read_text()) for path in self.files()]
        methods = [name for tree in trees for name in method_names(tree)]
        values = [name for tree in trees for name in value_names(tree)]
        self.assertEqual(set(methods) & set(values), set(), "L18")
        own = [name for name in methods if name != "__init__"]
        self.assertEqual(len(own), len(set(own)), "L18: a method stands twice")
        for kind in (str, int, list, dict, set, bytes, float):
            self.assertEqual({name for name in own + values if hasattr(kind, name)}, set(), "L26")

    def test_no_local_is_called_like_an_import_or_a_class(self):
        for path in self.files():
            tree = ast.parse(path.read_text())
            top = [alias.name for node in tree.body if isinstance(node, ast.ImportFrom) for alias in node.names]
            top += [node.name for node in tree.body if isinstance(node, (ast.ClassDef, ast.FunctionDef))]
            for node in ast.walk(tree):
                if isinstance(node, ast.FunctionDef):
                    local = {name for part in node.body for name in bound_names(part)}
                    local.update(part.arg for part in node.args.args)
                    self.assertEqual(local & set(top), set(), "L15: " + path.name)

    def test_imports_name_what_their_file_defines_and_go_one_way(self):
        drawn = {}
        for path in self.files():
            rows = [node for node in ast.walk(ast.parse(path.read_text())) if isinstance(node, ast.ImportFrom)]
            drawn[path.stem] = [row.module.split(".")[1] for row in rows]
            for row in rows:
                other = ast.parse((PACKAGE / (row.module.split(".")[1] + ".py")).read_text())
                here = {name for node in other.body if not isinstance(node, ast.ImportFrom)
                        for name in bound_names(node)}
                self.assertLessEqual({alias.name for alias in row.names}, here)
        while drawn:
            free = [name for name in drawn if not any(other in drawn for other in drawn[name])]
            self.assertTrue(free, "L16: files draw from one another")
            drawn = {name: others for name, others in drawn.items() if name not in free}


class TheLookItself(unittest.TestCase):
    """Each of these must be found, or the look above proves nothing."""

    def test_good_code_passes(self):
        self.assertEqual(look_at('"""Words."""\n\nA = 1\n\n\ndef f(x):\n    return [k for k in x if k != A]\n'), [])

    def test_faults_are_found(self):
        for text in (
            "import sys\n", "from os import path\n", "from smallcore.desk import *\n", "from .desk import answers\n",
            "A = {1: [2]}\n", "A = [1]\n\n\ndef f():\n    return A\n", "A = {1: 2}\n\n\ndef f(x):\n    A[x] = 1\n",
            "A = [1]\n\n\ndef f(x):\n    A.append(x)\n", "A = 1\nA = 2\n", "A = len([])\n", "print(1)\n",
            "def f(*x):\n    return x\n", "x = y = 1\n",
            "def f(x):\n    return x / 2\n", "def f(x):\n    return {k for k in x}\n", "A = 1.5\n", "A = b''\n",
            "def f(x):\n    assert x\n", "def f(x):\n    del x\n", "def f(x):\n    return getattr(x, 'a')\n",
            "def f(x):\n    return x.sort()\n", "def f(bytes):\n    return bytes\n", "def f(_x):\n    return 1\n",
            "def f(x):\n    return 2 ** x\n", "def f(x, y):\n    return x is y\n", "# a type\nA = 1\n",
            "def register():\n    return 1\n", "A = 1  # " + "x" * 120 + "\n", "A = '\u00e9'\n", "A =\t1\n",
            "def f():\n" + "    f()\n" * 40, "A = 1\n" + "\n" * 400, "class A:\n    b = 1\n",
            "def f(x):\n    for k in x:\n        pass\n    else:\n        pass\n",
            "def f(x):\n    yield x\n", "def f(x):\n    with x:\n        pass\n", "def f(x):\n    return (y := x)\n",
        ):
            self.assertNotEqual(look_at(text), [], text)


if __name__ == "__main__":
    unittest.main()
