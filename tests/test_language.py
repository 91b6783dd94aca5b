"""Holds each file of the package against LANGUAGE.md, as far as a look at the file can tell."""

import ast
import io
import pathlib
import re
import tokenize
import unittest

import roofpost

FOLDER = pathlib.Path(roofpost.__file__).parent

OWN = """len range enumerate zip min max sum abs sorted reversed int str bool list tuple dict set frozenset
isinstance ord repr any all divmod Exception ValueError TypeError KeyError IndexError LookupError
ZeroDivisionError ArithmeticError OverflowError RuntimeError NotImplementedError AttributeError
StopIteration""".split()

METHODS = """append clear copy count endswith extend find get index insert isalnum isalpha isdigit islower
isspace isupper items join keys ljust lower lstrip partition pop remove replace reverse rfind rjust
rpartition rsplit rstrip setdefault split splitlines startswith strip update upper values zfill
bit_length""".split()

DUNDERS = ["__init__", "__eq__", "__repr__", "__str__", "__len__"]

# L17: words that stand nowhere, and those that stand in no longer word either.
WORDS = """type typing typing_extensions enum Enum IntEnum StrEnum Flag IntFlag Generic Protocol ABC ABCMeta
namedtuple NamedTuple TypedDict TYPE_CHECKING abstractmethod""".split()
SPLINTERS = ["dataclass", "overload", "contextmanager"]

UNUSED = """register mro elements open input version_info with_traceback add_note attrgetter breakpoint builtins
compile copyright credits delattr dir eval exec exit gc getattr globals hasattr help id importlib license
locals methodcaller os quit setattr super type vars sys format format_map""".split()

STATEMENTS = (ast.Assign, ast.AugAssign, ast.If, ast.While, ast.For, ast.Return, ast.Break, ast.Continue,
              ast.Pass, ast.Raise, ast.Try, ast.Expr, ast.FunctionDef)

EXPRESSIONS = (ast.Constant, ast.List, ast.Tuple, ast.Dict, ast.Set, ast.BinOp, ast.UnaryOp, ast.BoolOp,
               ast.Compare, ast.IfExp, ast.Call, ast.Attribute, ast.Subscript, ast.Slice, ast.ListComp,
               ast.JoinedStr, ast.FormattedValue, ast.Name, ast.Lambda)

LAZY = ["zip", "enumerate", "reversed", "range"]

CHANGES = ["append", "clear", "extend", "insert", "pop", "remove", "reverse", "setdefault", "update"]

# L22: the keywords of Python's own.
KEYWORDS = {"sorted": ["key", "reverse"], "min": ["key", "default"], "max": ["key", "default"], "sum": ["start"],
            "enumerate": ["start"], "zip": ["strict"]}

# L26: what Python's own values have, but for the names that a method, or a value of an object, may have all the same.
PYTHONS = {name for kind in (str, int, list, dict, set, bytes) for name in vars(kind) if not name.startswith("__")}
AS_METHODS = METHODS + ["add", "discard"]
AS_VALUES = "count index title find get join lower upper split strip copy add".split()


def told(text, methods=()):
    """What stands outside the rules in a file of this text, in a package with these methods: (rule, row) each."""
    tree = ast.parse(text)
    found = of_text(text) + of_top(tree)
    for node in ast.walk(tree):
        found += of_node(node)
    found += of_names(tree, list(methods)) + of_lazy(tree) + of_classes(tree) + of_walks(tree)
    found += of_kept(tree) + of_uses(tree) + of_escapes(text)
    return sorted(set(found))


def of_text(text):
    rows = text.split("\n")
    found = [("L10", 401)] if len(rows) > 401 else []
    for number, row in enumerate(rows, start=1):
        if len(row) > 120 or "\t" in row:
            found.append(("L10", number))
        if any(not " " <= sign <= "~" for sign in row):
            found.append(("L14", number))
        words = re.findall(r"[A-Za-z0-9_]+", row)
        if any(word in WORDS or any(splinter in word for splinter in SPLINTERS) for word in words):
            found.append(("L17", number))
    return found


def is_text(node):
    return isinstance(node, ast.Expr) and isinstance(node.value, ast.Constant) and isinstance(node.value.value, str)


def is_plain(node):
    if isinstance(node, (ast.List, ast.Tuple)):
        return all(is_plain(part) for part in node.elts)
    if isinstance(node, ast.Dict):
        return all(is_plain(part) for part in node.keys + node.values)
    if isinstance(node, ast.UnaryOp):
        return isinstance(node.op, ast.USub) and is_plain(node.operand)
    return isinstance(node, (ast.Constant, ast.Name))


def of_top(tree):
    found = []
    for place, node in enumerate(tree.body):
        if isinstance(node, ast.ImportFrom):
            if node.level != 0 or not (node.module or "").startswith("roofpost."):
                found.append(("L2", node.lineno))
            if any(one.name == "*" for one in node.names):
                found.append(("L2", node.lineno))
        elif isinstance(node, ast.Assign):
            if not is_plain(node.value):
                found.append(("L3", node.lineno))
        elif isinstance(node, ast.ClassDef):
            found += of_class(node)
        elif not isinstance(node, ast.FunctionDef) and not (place == 0 and is_text(node)):
            found.append(("L3", node.lineno))
    bound = bound_at_top(tree)
    found += [("L15", 1) for name in set(bound) if bound.count(name) > 1]
    return found


def methods_of(tree):
    return [part.name for node in tree.body if isinstance(node, ast.ClassDef) for part in node.body
            if isinstance(part, ast.FunctionDef)]


def bound_at_top(tree):
    bound = []
    for node in tree.body:
        if isinstance(node, ast.ImportFrom):
            bound += [one.asname or one.name for one in node.names]
        elif isinstance(node, ast.Assign):
            bound += [one.id for one in node.targets if isinstance(one, ast.Name)]
        elif isinstance(node, (ast.FunctionDef, ast.ClassDef)):
            bound.append(node.name)
    return bound


def of_class(node):
    found = []
    if len(node.bases) > 1 or node.keywords or node.decorator_list:
        found.append(("L5", node.lineno))
    for part in node.body:
        if not isinstance(part, (ast.FunctionDef, ast.Pass)) and not is_text(part):
            found.append(("L5", part.lineno))
    return found


def of_node(node):
    row = getattr(node, "lineno", 0)
    found = []
    if isinstance(node, ast.stmt) and not isinstance(node, STATEMENTS + (ast.ImportFrom, ast.ClassDef)):
        found.append(("L6", row))
    if isinstance(node, ast.expr) and not isinstance(node, EXPRESSIONS):
        found.append(("L7", row))
    if isinstance(node, (ast.FunctionDef, ast.Lambda)):
        found += of_function(node)
    if isinstance(node, ast.Assign) and len(node.targets) > 1:
        found.append(("L6", row))
    if isinstance(node, (ast.For, ast.While)) and node.orelse:
        found.append(("L6", row))
    if isinstance(node, ast.Try) and (node.finalbody or any(one.type is None for one in node.handlers)):
        found.append(("L6", row))
    if isinstance(node, ast.Expr) and not isinstance(node.value, ast.Call) and not is_text(node):
        found.append(("L6", row))
    return found + of_expression(node, row)


def of_function(node):
    arguments = node.args
    found = []
    if arguments.vararg or arguments.kwarg or arguments.kwonlyargs or arguments.posonlyargs:
        found.append(("L4", node.lineno))
    if any(not is_plain(one) for one in arguments.defaults):
        found.append(("L4", node.lineno))
    if isinstance(node, ast.FunctionDef):
        if node.decorator_list:
            found.append(("L4", node.lineno))
        if node.end_lineno - node.lineno + 1 > 40:
            found.append(("L10", node.lineno))
    return found


def of_expression(node, row):
    found = []
    if isinstance(node, ast.Constant):
        if isinstance(node.value, (float, complex, bytes)):
            found.append(("L7", row))
        if isinstance(node.value, str) and "%" in node.value:
            found.append(("L27", row))
    if isinstance(node, ast.BinOp):
        if isinstance(node.op, (ast.Div, ast.MatMult)):
            found.append(("L7", row))
        if isinstance(node.op, ast.Pow) and not isinstance(node.right, ast.Constant):
            found.append(("L27", row))
    if isinstance(node, ast.ListComp):
        if len(node.generators) > 1 or len(node.generators[0].ifs) > 1:
            found.append(("L7", row))
    if isinstance(node, ast.FormattedValue) and (not isinstance(node.value, ast.Name) or node.format_spec):
        found.append(("L7", row))
    if isinstance(node, ast.Compare):
        for sign, right in zip(node.ops, node.comparators):
            plain = isinstance(right, ast.Constant) and (right.value is None or isinstance(right.value, bool))
            if isinstance(sign, (ast.Is, ast.IsNot)) and not plain:
                found.append(("L20", row))
    if isinstance(node, (ast.Set, ast.AnnAssign)):
        found.append(("L24", row))
    return found


def of_names(tree, methods):
    top = bound_at_top(tree)
    local = [node.id for node in ast.walk(tree) if isinstance(node, ast.Name) and isinstance(node.ctx, ast.Store)]
    local += [node.arg for node in ast.walk(tree) if isinstance(node, ast.arg)]
    local += [node.name for node in ast.walk(tree) if isinstance(node, ast.FunctionDef)]
    local += [node.name for node in ast.walk(tree) if isinstance(node, ast.ExceptHandler) and node.name]
    found = []
    for node in ast.walk(tree):
        row = getattr(node, "lineno", 0)
        if isinstance(node, ast.Name):
            if node.id not in top + local + OWN:
                found.append(("L8", row))
            if node.id in OWN and isinstance(node.ctx, ast.Store):
                found.append(("L8", row))
            found += of_word(node.id, row)
        if isinstance(node, ast.arg):
            if node.arg in OWN + top:
                found.append(("L15", row))
            found += of_word(node.arg, row)
        if isinstance(node, (ast.FunctionDef, ast.ClassDef)):
            found += of_word(node.name, row)
        if isinstance(node, ast.Attribute):
            found += of_word(node.attr, row)
        if isinstance(node, ast.Call) and isinstance(node.func, ast.Attribute):
            if node.func.attr not in METHODS + methods + DUNDERS:
                found.append(("L25", row))
    inner = [node for node in ast.walk(tree) if isinstance(node, ast.Name) and isinstance(node.ctx, ast.Store)]
    at_top = [one for node in tree.body if isinstance(node, ast.Assign) for one in node.targets]
    found += [("L15", node.lineno) for node in inner if node.id in top and node not in at_top]
    return found


def of_word(word, row):
    if word in UNUSED:
        return [("L17", row)]
    if word.startswith("_") and word not in DUNDERS:
        return [("L12", row)]
    return [] if re.fullmatch(r"[A-Za-z0-9_]+", word) else [("L12", row)]


def of_lazy(tree):
    """L23 and L24: what is walked at once, and sets, don't stand where a value is kept."""
    fit = []
    for node in ast.walk(tree):
        if isinstance(node, (ast.For, ast.comprehension)):
            fit.append((node.iter, "walk"))
        if isinstance(node, ast.Call) and isinstance(node.func, ast.Name) and node.args:
            name = node.func.id
            if name in ("list", "tuple", "dict", "sorted", "sum", "any", "all", "min", "max") + tuple(LAZY):
                fit += [(one, "walk") for one in node.args]
            if name in ("sorted", "len"):
                fit.append((node.args[0], "set"))
        if isinstance(node, ast.Compare):
            fit += [(one, "set") for one in [node.left] + node.comparators]
    found = []
    for node in ast.walk(tree):
        if isinstance(node, ast.Call) and isinstance(node.func, ast.Name):
            if node.func.id in LAZY and not any(node is one and kind == "walk" for one, kind in fit):
                found.append(("L23", node.lineno))
            if node.func.id in ("set", "frozenset") and not any(node is one and kind == "set" for one, kind in fit):
                found.append(("L24", node.lineno))
    return found


def values_of(tree):
    """The names under which values are given to objects, with their rows."""
    return [(node.attr, node.lineno) for node in ast.walk(tree)
            if isinstance(node, ast.Attribute) and isinstance(node.ctx, ast.Store)]


def of_classes(tree):
    """L18, L26 and L28, as far as one file tells."""
    found = [("L26", row) for name, row in values_of(tree)
             if name in PYTHONS | {"args", "encode", "format"} and name not in AS_VALUES]
    for node in tree.body:
        if isinstance(node, ast.ClassDef):
            names = [part.name for part in node.body if isinstance(part, ast.FunctionDef)]
            found += [("L18", node.lineno) for name in names if names.count(name) > 1]
            found += [("L26", node.lineno) for name in names if name in PYTHONS and name not in AS_METHODS]
            for part in node.body:
                if isinstance(part, ast.FunctionDef) and part.name == "__init__":
                    found += [("L28", one.lineno) for one in ast.walk(part)
                              if isinstance(one, ast.Return) and one.value is not None]
    return found


def of_walks(tree):
    """L19, L22 and L23: what is raised and taken, keywords, and loops that change what they walk."""
    found = []
    for node in ast.walk(tree):
        if isinstance(node, ast.Raise) and not isinstance(node.exc, ast.Call):
            found.append(("L19", node.lineno))
        if isinstance(node, ast.ExceptHandler) and getattr(node.type, "id", "") in ("Exception", "TypeError", ""):
            found.append(("L19", node.lineno))
        if isinstance(node, ast.Call):
            name = getattr(node.func, "id", getattr(node.func, "attr", ""))
            if name in OWN + METHODS and any(one.arg not in KEYWORDS.get(name, []) for one in node.keywords):
                found.append(("L22", node.lineno))
        if isinstance(node, ast.For):
            walked = node.iter
            while isinstance(walked, ast.Call) and (isinstance(walked.func, ast.Attribute) or (
                    walked.func.id in ("enumerate", "zip", "reversed") and walked.args)):
                walked = walked.func.value if isinstance(walked.func, ast.Attribute) else walked.args[0]
            found += [("L23", one.lineno) for part in node.body for one in ast.walk(part)
                      if changed(one) == ast.unparse(walked)]
    return found


def changed(node):
    """What a call or a place that is set changes, as it is written, or None."""
    if isinstance(node, ast.Call) and isinstance(node.func, ast.Attribute) and node.func.attr in CHANGES:
        return ast.unparse(node.func.value)
    if isinstance(node, ast.Subscript) and isinstance(node.ctx, ast.Store):
        return ast.unparse(node.value)
    return None


def places_of(tree):
    """Each node with the one around it, and the field of that one in which it stands."""
    return [(node, above, field) for above in ast.walk(tree) for field, part in ast.iter_fields(above)
            for node in (part if isinstance(part, list) else [part]) if isinstance(node, ast.AST)]


def of_kept(tree):
    """L15: lists and dicts of a file's top, which hold none themselves and are only read."""
    given = [node for node in tree.body if isinstance(node, ast.Assign)]
    lists = [node for node in given if isinstance(node.value, (ast.List, ast.Dict))]
    found = [("L15", node.lineno) for node in given for part in ast.walk(node.value)
             if isinstance(part, (ast.List, ast.Dict)) and part is not node.value]
    names = [one.id for node in lists for one in node.targets]
    for node, above, field in places_of(tree):
        if isinstance(node, ast.Name) and node.id in names and isinstance(node.ctx, ast.Load):
            if not is_read(above, field):
                found.append(("L15", node.lineno))
    return found


def is_read(above, field):
    if isinstance(above, ast.Subscript):
        return field == "value" and isinstance(above.ctx, ast.Load)
    if isinstance(above, ast.Call):
        return field == "args" and getattr(above.func, "id", "") in (
            "len", "list", "tuple", "dict", "sorted", "sum", "min", "max", "any", "all", "enumerate", "zip", "reversed")
    if isinstance(above, ast.Attribute):
        return above.attr in ("get", "items", "keys", "values", "count", "index", "copy")
    return isinstance(above, ast.Compare) or (isinstance(above, (ast.For, ast.comprehension)) and field == "iter")


def of_uses(tree):
    """L13, L18, L19, L21, L22 and L25: classes, Python's own and methods stand where they may, and nothing is annotated.

    Narrower than the rules: of Python's own errors only those are taken that may be taken anywhere.
    """
    found = []
    classes = [node.name for node in tree.body if isinstance(node, ast.ClassDef)]
    functions = [name for name in OWN if name[0].islower()]
    places = places_of(tree)
    beside = {id(node): (above, field) for node, above, field in places}
    for node, above, field in places:
        row = getattr(node, "lineno", 0)
        if isinstance(node, ast.Name) and node.id in classes + functions and isinstance(node.ctx, ast.Load):
            if isinstance(above, ast.Tuple):
                above, field = beside[id(above)]
            fits = isinstance(above, ast.Call) and (field == "func" or getattr(above.func, "id", "") == "isinstance")
            fits = fits or isinstance(above, ast.keyword) and above.arg == "key" and node.id in functions
            fits = fits or isinstance(above, (ast.ClassDef, ast.ExceptHandler)) and node.id in classes
            # A base's __init__ is called by the class's name.
            fits = fits or isinstance(above, ast.Attribute) and above.attr == "__init__"
            if not fits:
                found.append(("L18" if node.id in classes else "L22", row))
        if isinstance(node, ast.Attribute) and node.attr in METHODS and isinstance(node.ctx, ast.Load):
            if not (isinstance(above, ast.Call) and field == "func"):
                found.append(("L25", row))
        if isinstance(node, ast.ExceptHandler):
            taken = node.type.elts if isinstance(node.type, ast.Tuple) else [node.type]
            barred = [name for name in OWN if name not in ("KeyError", "ZeroDivisionError", "StopIteration")]
            found += [("L19", row) for one in taken if getattr(one, "id", "") in barred]
        if isinstance(node, ast.arg) and node.annotation or isinstance(node, ast.FunctionDef) and node.returns:
            found.append(("L21", row))
    lambdas = [(node.lineno, ast.unparse(node.args)) for node in ast.walk(tree) if isinstance(node, ast.Lambda)]
    return found + [("L13", one[0]) for one in lambdas if lambdas.count(one) > 1]


def of_escapes(text):
    """L27: the escapes that a text may have."""
    return [("L27", token.start[0]) for token in tokenize.generate_tokens(io.StringIO(text).readline)
            if token.type == tokenize.STRING and re.sub(r"\\[nt\\'\"]", "", token.string).count("\\")]


# A snippet for each rule, which has to be found; so a look that finds nothing says something.
OUTSIDE = [
    ("L2", "from os import path"), ("L2", "from roofpost.errors import *"), ("L2", "from .errors import NoKin"),
    ("L3", "names = sorted([1])"), ("L3", "print(1)"), ("L4", "def f(*args):\n    return 1"),
    ("L4", "def f(a, *, b):\n    return 1"), ("L5", "class A:\n    many = 1"), ("L6", "def f():\n    assert True"),
    ("L6", "def f():\n    a = b = 1\n    return a"), ("L6", "def f():\n    for k in [1]:\n        pass\n    else:\n        pass"),
    ("L7", "def f(a):\n    return a / 2"), ("L7", "def f():\n    return 1.5"), ("L7", "def f(a):\n    return {k for k in a}"),
    ("L7", "def f(a):\n    return any(k for k in a)"), ("L7", "def f(a):\n    return [j for k in a for j in k]"),
    ("L8", "def f(a):\n    return map(f, a)"), ("L8", "def f(a):\n    len = a\n    return len"),
    ("L10", "def f():\n" + "    pass\n" * 41), ("L10", "a = 1" + " " * 120), ("L12", "def f(_):\n    return 1"),
    ("L14", "# \u00e9"), ("L15", "a = 1\na = 2"), ("L15", "a = 1\n\n\ndef f(a):\n    return a"),
    ("L17", "# a type"), ("L17", "def f(a):\n    return id(a)"), ("L20", "def f(a):\n    return a is 1"),
    ("L23", "def f(a):\n    b = zip(a, a)\n    return b"), ("L24", "def f(a):\n    b = set(a)\n    return b"),
    ("L25", "def f(a):\n    a.sort()\n    return a"), ("L27", "a = '%'"), ("L27", "def f(n):\n    return 2 ** n"),
    ("L18", "class A:\n    def f(self):\n        return 1\n\n    def f(self):\n        return 2"),
    ("L19", "def f(a):\n    raise a"), ("L19", "def f(a):\n    try:\n        return a[0]\n    except TypeError:\n        return 1"),
    ("L22", "def f(a):\n    return list(a, key=len)"), ("L22", "def f(a):\n    return a.split(sep='')"),
    ("L23", "def f(a):\n    for k in a:\n        a.append(k)"), ("L23", "def f(a):\n    for k in a.b.items():\n        a.b[k] = 1"),
    ("L23", "def f(a):\n    for k, j in enumerate(a):\n        a[k] = j"),
    ("L26", "class A:\n    def f(self):\n        self.values = 1"), ("L26", "class A:\n    def sort(self):\n        return 1"),
    ("L28", "class A:\n    def __init__(self):\n        return None"),
    ("L15", "a = [[1]]"), ("L15", "a = ({},)"), ("L15", "a = [1]\n\n\ndef f():\n    return a"),
    ("L15", "a = [1]\n\n\ndef f():\n    a.append(1)"), ("L15", "a = {}\n\n\ndef f(b):\n    a[b] = 1"),
    ("L15", "a = [1]\n\n\ndef f(b):\n    return f(a)"), ("L18", "class A:\n    pass\n\n\ndef f():\n    return [A]"),
    ("L22", "def f(a):\n    b = len\n    return b(a)"), ("L25", "def f(a):\n    b = a.append\n    return b"),
    ("L19", "def f(a):\n    try:\n        return f(a)\n    except ValueError:\n        return 1"),
    ("L19", "def f(a):\n    try:\n        return a[0]\n    except (KeyError, IndexError):\n        return 1"),
    ("L21", "def f(a: int):\n    return a"), ("L21", "def f(a) -> int:\n    return a"), ("L27", "a = '\\x41'"),
    ("L13", "def f(a):\n    return [sorted(a, key=lambda k: k), sorted(a, key=lambda k: -k)]"),
]

# What the rules allow isn't found.
WITHIN = [
    "a = [1]\n\n\ndef f(b):\n    return a[0] + len(a) + sum([k for k in a if k in a and a.count(k) == b]), list(a)",
    "a = {'b': (1, 2)}\n\n\ndef f(b):\n    return a.get(b)", "a = '\\n\\t\\\\\\''",
    "class A(ValueError):\n    pass\n\n\ndef f(b):\n    try:\n        return sorted(b, key=len)\n    except A:\n        return 1",
    "class A:\n    pass\n\n\ndef f(b):\n    return isinstance(b, A) or isinstance(b, (int, str))",
]


class Language(unittest.TestCase):
    def files(self):
        return sorted(path for path in FOLDER.iterdir() if path.name != "__pycache__")

    def test_each_file_keeps_to_the_rules(self):
        texts = {path.name: path.read_bytes().decode("utf-8") for path in self.files()}
        methods = [name for text in texts.values() for name in methods_of(ast.parse(text))]
        for name, text in texts.items():
            self.assertEqual(told(text, methods), [], name)

    def test_no_name_is_a_method_here_and_a_value_there(self):
        trees = [ast.parse(path.read_text()) for path in self.files()]
        methods = {name for tree in trees for name in methods_of(tree)}
        self.assertEqual(methods & {name for tree in trees for name, row in values_of(tree)}, set())

    def test_nothing_but_plain_files_lies_in_the_package(self):
        self.assertIn("__init__.py", [path.name for path in self.files()])
        for path in self.files():
            self.assertTrue(path.is_file(), path.name)
            self.assertTrue(re.fullmatch(r"[a-z][a-z0-9_]*\.py|__init__\.py|__main__\.py", path.name), path.name)
            self.assertFalse(path.name.startswith("test"), path.name)

    def test_names_are_drawn_from_the_files_that_define_them(self):
        trees = {"roofpost." + path.stem: ast.parse(path.read_text()) for path in self.files()}
        for name, tree in trees.items():
            for node in tree.body:
                if isinstance(node, ast.ImportFrom):
                    made = [one.name for one in trees[node.module].body
                            if isinstance(one, (ast.FunctionDef, ast.ClassDef))]
                    made += [one.id for given in trees[node.module].body if isinstance(given, ast.Assign)
                             for one in given.targets]
                    for one in node.names:
                        self.assertIn(one.name, made, name)

    def test_no_two_files_draw_from_one_another(self):
        drawn = {}
        for path in self.files():
            tree = ast.parse(path.read_text())
            drawn["roofpost." + path.stem] = [node.module for node in tree.body if isinstance(node, ast.ImportFrom)]
        while drawn:
            free = [name for name, above in drawn.items() if not any(one in drawn for one in above)]
            self.assertNotEqual(free, [], drawn)
            for name in free:
                del drawn[name]

    def test_what_stands_outside_is_found(self):
        for rule, text in OUTSIDE:
            self.assertIn(rule, [one for one, row in told(text)], text)

    def test_what_stands_within_is_not_found(self):
        for text in WITHIN:
            self.assertEqual(told(text), [], text)


if __name__ == "__main__":
    unittest.main()
