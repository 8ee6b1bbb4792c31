"""The package keeps to the part of Python that LANGUAGE.md tells: what of its rules can be read off a file's tree.

Not all of each rule is seen here; a rule's number stands by what is seen of it.
"""

import ast
import builtins
import pathlib
import re
import unittest

PACKAGE = pathlib.Path(__file__).resolve().parent.parent / "wholeops"

ALLOWED_BUILTINS = set(
    "len range enumerate zip min max sum abs sorted reversed int str bool list tuple dict set frozenset isinstance ord "
    "repr any all divmod Exception ValueError TypeError KeyError IndexError LookupError ZeroDivisionError "
    "ArithmeticError OverflowError RuntimeError NotImplementedError AttributeError StopIteration".split())
ALLOWED_METHODS = set(
    "append clear copy count endswith extend find get index insert isalnum isalpha isdigit islower isspace isupper "
    "items join keys ljust lower lstrip partition pop remove replace reverse rfind rjust rpartition rsplit rstrip "
    "setdefault split splitlines startswith strip update upper values zfill bit_length".split())
UNUSED_NAMES = set(
    "register mro elements open input version_info with_traceback add_note format format_map attrgetter breakpoint "
    "builtins compile copyright credits delattr dir eval exec exit gc getattr globals hasattr help id importlib "
    "license locals methodcaller os quit setattr super sys type vars".split())
UNUSED_WORDS = re.compile(
    r"\b(type|typing|typing_extensions|enum|Enum|IntEnum|StrEnum|Flag|IntFlag|Generic|Protocol|ABC|ABCMeta|namedtuple|"
    r"NamedTuple|TypedDict|TYPE_CHECKING|abstractmethod)\b|dataclass|overload|contextmanager")
PYTHONS_OWN = {name for name in dir(builtins) if not name.startswith("_")}
OWN_METHODS = {"__init__", "__eq__", "__repr__", "__str__", "__len__"}
DUNDER_NAMES = OWN_METHODS | {"__all__", "__version__"}
STATEMENTS = (ast.Assign, ast.AugAssign, ast.AnnAssign, ast.If, ast.While, ast.For, ast.Return, ast.Break, ast.Continue,
              ast.Pass, ast.Raise, ast.Try, ast.Expr, ast.FunctionDef, ast.ClassDef, ast.ImportFrom)
EXPRESSIONS = (ast.BoolOp, ast.BinOp, ast.UnaryOp, ast.Lambda, ast.IfExp, ast.Dict, ast.Set, ast.ListComp, ast.Compare,
               ast.Call, ast.FormattedValue, ast.JoinedStr, ast.Constant, ast.Attribute, ast.Subscript, ast.Name,
               ast.List, ast.Tuple, ast.Slice)


def plain(node):
    """Whether a value at a file's top is a plain one (L3)."""
    if isinstance(node, (ast.List, ast.Tuple)):
        return all(plain(item) for item in node.elts)
    if isinstance(node, ast.Dict):
        return all(key is not None and plain(key) for key in node.keys) and all(plain(item) for item in node.values)
    if isinstance(node, ast.UnaryOp) and isinstance(node.op, ast.USub):
        return plain(node.operand)
    return isinstance(node, (ast.Constant, ast.Name))


def text_faults(text):
    for row, line in enumerate(text.split("\n"), start=1):
        if len(line) > 120:
            yield f"L10 row {row}: over 120 characters"
        if any(not " " <= sign <= "~" for sign in line):
            yield f"L14 row {row}: a sign that isn't allowed"
        if UNUSED_WORDS.search(line):
            yield f"L17 row {row}: a word that isn't used"
    if len(text.splitlines()) > 400:
        yield "L10: over 400 lines"


def top_faults(tree):
    bound = []
    for place, node in enumerate(tree.body):
        if isinstance(node, (ast.FunctionDef, ast.ClassDef)):
            bound.append(node.name)
        elif isinstance(node, ast.Assign) and isinstance(node.targets[0], ast.Name) and plain(node.value):
            bound.append(node.targets[0].id)
        elif isinstance(node, ast.ImportFrom):
            bound.extend(alias.asname or alias.name for alias in node.names)
        elif not (place == 0 and ast.get_docstring(tree) is not None):
            yield f"L3 row {node.lineno}: not for a file's top"
    for name in sorted(set(bound)):
        if bound.count(name) > 1:
            yield f"L15: {name} is bound more than once"


def name_faults(name, row):
    if name.startswith("_") and name not in DUNDER_NAMES or not name.isascii():
        yield f"L12 row {row}: {name}"
    if name in UNUSED_NAMES:
        yield f"L17 row {row}: {name}"


def bound_faults(name, row):
    yield from name_faults(name, row)
    if name in PYTHONS_OWN:
        yield f"L15 row {row}: {name} is Python's own"


def def_faults(node):
    row = node.lineno
    yield from bound_faults(node.name, row)
    if node.decorator_list:
        yield f"L4 row {row}: a decorator"
    if node.end_lineno - row + 1 > 40 and isinstance(node, ast.FunctionDef):
        yield f"L10 row {row}: over 40 lines"
    if isinstance(node, ast.ClassDef):
        body = node.body[1:] if ast.get_docstring(node) is not None else node.body
        if len(node.bases) > 1 or node.keywords:
            yield f"L5 row {row}: more than one base"
        if any(not isinstance(item, (ast.FunctionDef, ast.Pass)) for item in body):
            yield f"L5 row {row}: a class has methods alone"


def node_faults(node, own_methods):
    row = getattr(node, "lineno", 0)
    if isinstance(node, ast.stmt) and not isinstance(node, STATEMENTS):
        yield f"L6 row {row}: {type(node).__name__}"
    if isinstance(node, ast.expr) and not isinstance(node, EXPRESSIONS):
        yield f"L7 row {row}: {type(node).__name__}"
    if isinstance(node, (ast.FunctionDef, ast.ClassDef)):
        yield from def_faults(node)
    if isinstance(node, ast.arguments) and (node.vararg or node.kwarg or node.kwonlyargs or node.posonlyargs):
        yield "L4: a parameter that isn't plain"
    if isinstance(node, ast.arg):
        yield from bound_faults(node.arg, row)
    if isinstance(node, ast.Name) and isinstance(node.ctx, ast.Store):
        yield from bound_faults(node.id, row)
    if isinstance(node, ast.Name) and isinstance(node.ctx, ast.Load):
        yield from name_faults(node.id, row)
        if hasattr(builtins, node.id) and node.id not in ALLOWED_BUILTINS:
            yield f"L8 row {row}: {node.id}"
    if isinstance(node, ast.Attribute):
        yield from name_faults(node.attr, row)
    if isinstance(node, ast.Call) and isinstance(node.func, ast.Attribute):
        if node.func.attr not in ALLOWED_METHODS and node.func.attr not in own_methods:
            yield f"L25 row {row}: {node.func.attr}"
    yield from form_faults(node, row)


def form_faults(node, row):
    if isinstance(node, ast.ImportFrom):
        own = node.level == 0 and node.module.startswith("wholeops.") and node.module != "wholeops.__main__"
        if not own or any(alias.name == "*" for alias in node.names):
            yield f"L2 row {row}: not an import of the package's own"
    if isinstance(node, (ast.For, ast.While, ast.Try)) and (getattr(node, "finalbody", []) or (
            node.orelse and not isinstance(node, ast.Try))):
        yield f"L6 row {row}: else behind a loop, or finally"
    if isinstance(node, ast.Assign) and len(node.targets) > 1:
        yield f"L6 row {row}: several targets"
    if isinstance(node, ast.Constant) and isinstance(node.value, (float, complex, bytes)):
        yield f"L7 row {row}: a value that isn't allowed"
    if isinstance(node, (ast.BinOp, ast.AugAssign)) and isinstance(node.op, (ast.Div, ast.MatMult)):
        yield f"L7 row {row}: / or @"
    if isinstance(node, ast.ListComp) and (len(node.generators) > 1 or len(node.generators[0].ifs) > 1):
        yield f"L7 row {row}: a comprehension with more than one for or if"
    if isinstance(node, ast.ExceptHandler) and node.type is None:
        yield f"L6 row {row}: except without a name"
    if isinstance(node, ast.Compare) and any(isinstance(sign, (ast.Is, ast.IsNot)) for sign in node.ops):
        if not any(isinstance(side, ast.Constant) for side in [node.left] + node.comparators):
            yield f"L20 row {row}: is"
    if isinstance(node, (ast.BinOp, ast.AugAssign)) and isinstance(node.op, ast.Pow):
        power = node.right if isinstance(node, ast.BinOp) else node.value
        if not (isinstance(power, ast.Constant) and 0 <= power.value <= 64):
            yield f"L27 row {row}: an exponent that isn't written out"


def own_imports(tree):
    return [node for node in tree.body if isinstance(node, ast.ImportFrom)]


def local_faults(tree):
    """Parameters and locals that are called like a class or an import of their file (L15)."""
    taken = {alias.asname or alias.name for node in own_imports(tree) for alias in node.names}
    taken |= {node.name for node in tree.body if isinstance(node, ast.ClassDef)}
    for node in ast.walk(tree):
        name = node.arg if isinstance(node, ast.arg) else getattr(node, "id", None)
        if name in taken and isinstance(getattr(node, "ctx", ast.Store()), ast.Store):
            yield f"L15 row {node.lineno}: {name} is a class or an import of the file"


def import_faults(trees):
    """What is drawn from a file that doesn't define it, and files that draw from one another (L16); trees by module."""
    drawn = {module: [node.module for node in own_imports(tree)] for module, tree in trees.items()}
    for module, tree in trees.items():
        for node in own_imports(tree):
            source = trees.get(node.module, ast.Module([], [])).body
            defined = {getattr(item, "name", None) for item in source}
            defined |= {item.targets[0].id for item in source if isinstance(item, ast.Assign)}
            for alias in node.names:
                if alias.name not in defined:
                    yield f"L16: {module} draws {alias.name} from {node.module}, which doesn't define it"
        reached, ahead = set(), list(drawn[module])
        while ahead:
            other = ahead.pop()
            if other not in reached:
                reached.add(other)
                ahead.extend(drawn.get(other, []))
        if module in reached:
            yield f"L16: {module} draws from itself in some steps"


def faults(text, own_methods=()):
    tree = ast.parse(text)
    found = list(text_faults(text)) + list(top_faults(tree)) + list(local_faults(tree))
    for node in ast.walk(tree):
        found.extend(node_faults(node, own_methods))
    return found


def package_files():
    return sorted(path for path in PACKAGE.rglob("*") if "__pycache__" not in path.parts)


def methods_of(texts):
    classes = [node for text in texts for node in ast.walk(ast.parse(text)) if isinstance(node, ast.ClassDef)]
    return {item.name for node in classes for item in node.body if isinstance(item, ast.FunctionDef)}


class ThePackage(unittest.TestCase):
    def test_its_files(self):
        self.assertTrue((PACKAGE / "__init__.py").is_file())
        self.assertTrue((PACKAGE / "processor.py").is_file())
        for path in package_files():
            with self.subTest(path=path):
                self.assertTrue(path.is_file(), "L1: one folder")
                self.assertRegex(path.name, r"\A(__init__|__main__|[a-z][a-z0-9_]*)\.py\Z")
                self.assertNotIn(path.stem, PYTHONS_OWN | UNUSED_NAMES, "L14")
                self.assertNotRegex(path.stem, r"\A(test|tests|testing|test_.*|site|conftest|.*customize)\Z")

    def test_its_code(self):
        texts = {path: path.read_bytes().decode("utf-8") for path in package_files()}
        own_methods = methods_of(texts.values())
        for path, text in texts.items():
            with self.subTest(path=path):
                self.assertEqual(faults(text, own_methods), [])


    def test_its_imports(self):
        trees = {f"wholeops.{path.stem}": ast.parse(path.read_bytes()) for path in package_files()}
        self.assertEqual(list(import_faults(trees)), [])


class TheCheckItself(unittest.TestCase):
    def test_it_takes_what_is_allowed(self):
        text = '"""A file."""\n\nA = (1, -2)\n\n\ndef f(x):\n    return [y for y in A if y < x]\n'
        self.assertEqual(faults(text), [])

    def test_it_finds_what_is_not(self):
        wrong = {
            "L2": "import os\nfrom random import choice\n",
            "L3": "for x in (1, 2):\n    pass\n",
            "L4": "def f(*xs):\n    return xs\n",
            "L5": "class A:\n    x = 1\n",
            "L6": "def f(x):\n    assert x\n",
            "L7": "def f(x):\n    return x / 2\n",
            "L8": "def f(x):\n    return map(x, x)\n",
            "L10": "A = " + "1" * 120 + "\n",
            "L12": "def f(_x):\n    return 1\n",
            "L14": "# \u00e4\n",
            "L15": "A = 1\nA = 2\n",
            "L17": "# a type\n",
            "L20": "def f(x, y):\n    return x is y\n",
            "L25": "def f(x):\n    return x.sort()\n",
            "L27": "def f(x):\n    return 2 ** x\n",
        }
        for rule, text in wrong.items():
            with self.subTest(rule=rule):
                self.assertIn(rule, [fault.split()[0].rstrip(":") for fault in faults(text)])

    def test_it_finds_names_that_are_taken(self):
        for text in ("from wholeops.b import f\n\n\ndef g(f):\n    return 1\n",
                     "from wholeops.b import f\n\n\ndef g(x):\n    f = x\n    return f\n"):
            self.assertEqual(len(faults(text)), 1)

    def test_it_finds_wrong_imports(self):
        drawing = {"wholeops.a": "from wholeops.b import f\n", "wholeops.b": "from wholeops.c import f\n",
                   "wholeops.c": "def f(x):\n    return x\n"}
        trees = {module: ast.parse(text) for module, text in drawing.items()}
        self.assertEqual(len(list(import_faults(trees))), 1)
        trees["wholeops.b"] = ast.parse("from wholeops.c import g\n\n\ndef f(x):\n    return x\n")
        trees["wholeops.c"] = ast.parse("from wholeops.a import h\n\n\ndef g(x):\n    return x\n")
        trees["wholeops.a"] = ast.parse("from wholeops.b import f\n\nh = 1\n")
        self.assertEqual(len(list(import_faults(trees))), 3)


if __name__ == "__main__":
    unittest.main()
