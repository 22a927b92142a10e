"""The package's files keep to the rules of LANGUAGE.md that can be seen in the code."""

import ast
import builtins
import pathlib
import re
import unittest
import warnings

TOP = pathlib.Path(__file__).resolve().parent.parent
PACKAGE = TOP / "caseways"

STATEMENTS = (
    ast.Assign, ast.AnnAssign, ast.AugAssign, ast.If, ast.While, ast.For, ast.Return, ast.Break,
    ast.Continue, ast.Pass, ast.Raise, ast.Assert, ast.Delete, ast.Try, ast.Expr,
    ast.FunctionDef, ast.ClassDef, ast.ImportFrom,
)
AT_TOP = (ast.Assign, ast.AnnAssign, ast.FunctionDef, ast.ClassDef, ast.ImportFrom, ast.Expr)
BARRED_NODES = (ast.GeneratorExp, ast.NamedExpr, ast.Div, ast.MatMult, ast.Yield, ast.YieldFrom, ast.Await)
BUILTINS = set(
    "len range enumerate zip min max sum abs sorted reversed int str bool bytes list tuple dict set "
    "frozenset isinstance ord repr any all divmod Exception ValueError TypeError KeyError IndexError "
    "LookupError ZeroDivisionError ArithmeticError OverflowError RuntimeError NotImplementedError "
    "AttributeError StopIteration".split()
)
METHODS = set(
    "append clear copy count endswith extend find get index insert isalnum isalpha isdigit islower "
    "isspace isupper items join keys ljust lower lstrip partition pop remove replace reverse rfind rjust "
    "rpartition rsplit rstrip setdefault split splitlines startswith strip update upper values zfill "
    "bit_length sort add discard".split()
)
DUNDERS = set("__init__ __eq__ __repr__ __str__ __len__".split())
BARRED_NAMES = set(
    "register mro elements open input version_info with_traceback add_note attrgetter breakpoint builtins "
    "compile copyright credits delattr dir eval exec exit gc getattr globals hasattr help id importlib "
    "license locals methodcaller os quit setattr super type vars sys".split()
)
BARRED_WORDS = re.compile(
    r"\b(type|typing|typing_extensions|enum|Enum|IntEnum|StrEnum|Flag|IntFlag|Generic|Protocol|ABC|ABCMeta"
    r"|namedtuple|NamedTuple|TypedDict|TYPE_CHECKING|abstractmethod)\b|dataclass|overload|contextmanager"
)


def bound_names(tree):
    """Each name that a file binds, with its line: variables, functions, parameters, imports."""
    for node in ast.walk(tree):
        if isinstance(node, (ast.FunctionDef, ast.ClassDef)):
            yield node.name, node.lineno
        elif isinstance(node, ast.arg):
            yield node.arg, node.lineno
        elif isinstance(node, ast.Name) and isinstance(node.ctx, ast.Store):
            yield node.id, node.lineno
        elif isinstance(node, ast.ExceptHandler) and node.name:
            yield node.name, node.lineno


def text_breaches(source):
    lines = source.split("\n")
    if len(lines) > 401:
        yield "L10", 401
    for at, line in enumerate(lines, 1):
        if len(line) > 120:
            yield "L10", at
        if not all(" " <= sign <= "~" for sign in line):
            yield "L14", at
        if BARRED_WORDS.search(line):
            yield "L17", at


def statement_breaches(node):
    if isinstance(node, ast.stmt) and not isinstance(node, STATEMENTS):
        yield "L6"
    if isinstance(node, (ast.For, ast.While)) and node.orelse:
        yield "L6"
    if isinstance(node, ast.ImportFrom) and node.module != "__future__":
        if node.level or not (node.module or "").startswith("caseways."):
            yield "L2"
        if any(name.name == "*" for name in node.names):
            yield "L2"
    if isinstance(node, ast.FunctionDef):
        given = node.args
        if given.vararg or given.kwarg or given.posonlyargs or node.decorator_list:
            yield "L4"
        if node.end_lineno - node.lineno >= 40:
            yield "L10"
    if isinstance(node, ast.ClassDef):
        if len(node.bases) > 1 or node.keywords or node.decorator_list:
            yield "L5"
        for part in node.body:
            is_words = isinstance(part, ast.Expr) and isinstance(part.value, ast.Constant)
            if not is_words and not isinstance(part, (ast.FunctionDef, ast.Pass)):
                yield "L5"
    if isinstance(node, ast.ExceptHandler):
        named = ast.unparse(node.type) if node.type else "Exception"
        if named in ("Exception", "TypeError", "()"):
            yield "L19"


def value_breaches(node):
    if isinstance(node, BARRED_NODES):
        yield "L7"
    if isinstance(node, ast.Constant):
        if isinstance(node.value, (float, complex)):
            yield "L7"
        if isinstance(node.value, str) and "%" in node.value:
            yield "L27"
    if isinstance(node, ast.Starred) and isinstance(node.ctx, ast.Load):
        yield "L7"
    if isinstance(node, ast.BinOp) and isinstance(node.op, ast.Pow):
        if not (isinstance(node.right, ast.Constant) and 0 <= node.right.value <= 64):
            yield "L27"
    if isinstance(node, ast.Name) and isinstance(node.ctx, ast.Load):
        if hasattr(builtins, node.id) and node.id not in BUILTINS:
            yield "L8"
    if isinstance(node, ast.Compare):
        for sign, right in zip(node.ops, node.comparators):
            plain = isinstance(right, ast.Constant) and right.value in (None, True, False)
            if isinstance(sign, (ast.Is, ast.IsNot)) and not plain:
                yield "L20"


def name_breaches(tree):
    for name, line in bound_names(tree):
        if name.startswith("_") and name not in DUNDERS:
            yield "L12", line
        if hasattr(builtins, name) and name not in DUNDERS:
            yield "L15", line
        if name in BARRED_NAMES:
            yield "L17", line
    imports = [name.asname or name.name for node in tree.body if isinstance(node, ast.ImportFrom) for name in node.names]
    for node in ast.walk(tree):
        if isinstance(node, ast.FunctionDef):
            for name, line in bound_names(node):
                if name in imports:
                    yield "L15", line


def top_breaches(tree):
    bound = []
    import_may_follow = True
    for node in tree.body:
        if not isinstance(node, AT_TOP):
            yield "L3", node.lineno
        if isinstance(node, ast.Expr) and not isinstance(node.value, ast.Constant):
            yield "L3", node.lineno
        if isinstance(node, ast.ImportFrom):
            bound += [name.asname or name.name for name in node.names]
            if not import_may_follow:
                yield "L2", node.lineno
        elif not isinstance(node, ast.Expr):
            import_may_follow = False
        if isinstance(node, (ast.FunctionDef, ast.ClassDef)):
            bound.append(node.name)
        if isinstance(node, ast.Assign):
            bound += [target.id for target in node.targets]
            if any(isinstance(part, (ast.Call, ast.ListComp, ast.DictComp)) for part in ast.walk(node)):
                yield "L3", node.lineno
    if len(bound) != len(set(bound)):
        yield "L15", 1


def method_breaches(tree, own):
    for node in ast.walk(tree):
        if isinstance(node, ast.Call) and isinstance(node.func, ast.Attribute):
            name = node.func.attr
            if name not in METHODS and name not in own and name != "__init__":
                yield "L25", node.lineno


def methods_of(tree):
    """The names of the methods that a file's classes have."""
    return {
        part.name
        for node in ast.walk(tree)
        if isinstance(node, ast.ClassDef)
        for part in node.body
        if isinstance(part, ast.FunctionDef)
    }


def breaches(source):
    """All (rule, line) that a file's text breaks."""
    with warnings.catch_warnings():
        warnings.simplefilter("error")
        tree = ast.parse(source)
        compile(source, "file", "exec")
    found = list(text_breaches(source)) + list(name_breaches(tree)) + list(top_breaches(tree))
    found += method_breaches(tree, methods_of(tree))
    for node in ast.walk(tree):
        for rule in list(statement_breaches(node)) + list(value_breaches(node)):
            found.append((rule, getattr(node, "lineno", 0)))
    return found


BAD = [
    ("L2", "from .errors import CaseError\n"),
    ("L2", "from os import path\n"),
    ("L2", "from caseways.errors import *\n"),
    ("L2", "A = 1\nfrom caseways.errors import CaseError\n"),
    ("L3", "print(1)\n"),
    ("L3", "A = len([1])\n"),
    ("L4", "def f(*xs):\n    return xs\n"),
    ("L4", "def f(a, /):\n    return a\n"),
    ("L5", "class A:\n    b = 1\n"),
    ("L6", "def f():\n    with 1:\n        pass\n"),
    ("L6", "import os\n"),
    ("L6", "def f(xs):\n    for x in xs:\n        pass\n    else:\n        pass\n"),
    ("L7", "A = 1.5\n"),
    ("L7", "def f(a):\n    return a / 2\n"),
    ("L7", "def f(xs):\n    return any(x for x in xs)\n"),
    ("L7", "def f(xs):\n    return [*xs]\n"),
    ("L8", "def f(x):\n    return hash(x)\n"),
    ("L10", "A = '" + "a" * 120 + "'\n"),
    ("L10", "def f():\n" + "    pass\n" * 40),
    ("L10", "A = 1\n" + "\n" * 401),
    ("L12", "def f(xs):\n    return [1 for _ in xs]\n"),
    ("L14", "A = 1  # \u00e4\n"),
    ("L15", "A = 1\nA = 2\n"),
    ("L15", "def f(min):\n    return min\n"),
    ("L15", "from caseways.errors import Beyond\n\n\ndef f(Beyond):\n    return Beyond\n"),
    ("L17", "A = 1  # a type\n"),
    ("L17", "def f(elements):\n    return 1\n"),
    ("L19", "def f():\n    try:\n        pass\n    except TypeError:\n        pass\n"),
    ("L20", "def f(a, b):\n    return a is b\n"),
    ("L25", "def f(a):\n    return a.bit_count()\n"),
    ("L27", "def f(n):\n    return 2 ** n\n"),
    ("L27", "A = '%'\n"),
]


class Language(unittest.TestCase):
    def test_each_rule_is_seen(self):
        for rule, source in BAD:
            self.assertIn(rule, [found for found, _ in breaches(source)], source)

    def test_the_package_keeps_to_the_rules(self):
        files = sorted(PACKAGE.glob("*.py"))
        self.assertTrue(files)
        for file in files:
            self.assertEqual(breaches(file.read_bytes().decode("utf-8")), [], file.name)

    def test_the_folder_contains_python_files_only(self):
        names = [path.name for path in PACKAGE.iterdir() if path.name != "__pycache__"]
        self.assertIn("__init__.py", names)
        for name in names:
            self.assertRegex(name, r"\A[a-z0-9_]+\.py\Z")

    def test_imported_names_are_defined_in_the_very_file(self):
        for file in sorted(PACKAGE.glob("*.py")):
            for node in ast.parse(file.read_text()).body:
                if isinstance(node, ast.ImportFrom) and node.module.startswith("caseways."):
                    there = ast.parse((TOP / (node.module.replace(".", "/") + ".py")).read_text())
                    defined = [name for part in there.body for name, _ in bound_names(part)]
                    for name in node.names:
                        self.assertIn(name.name, defined, file.name)

    def test_no_two_files_import_from_each_other(self):
        behind = {}
        for file in sorted(PACKAGE.glob("*.py")):
            nodes = [node for node in ast.parse(file.read_text()).body if isinstance(node, ast.ImportFrom)]
            behind[file.stem] = {node.module.split(".")[1] for node in nodes if node.module.startswith("caseways.")}
        # File by file: what imports only from files that are done can be done, too.
        done = set()
        while done != set(behind):
            ready = {name for name in behind if behind[name] <= done} - done
            self.assertTrue(ready, sorted(set(behind) - done))
            done |= ready


if __name__ == "__main__":
    unittest.main()
