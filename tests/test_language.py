"""The package's files held against the rules of its language, L1 to L28, as far as a text can show them.

What a rule leaves open is let through. Each rule's check is shown to find what breaks the rule.
"""

import ast
import builtins
import io
import pathlib
import re
import tokenize
import unittest

PACKAGE = "rowseating"
FOLDER = pathlib.Path(__file__).resolve().parent.parent / PACKAGE
INTERFACE = {"planner": "answers"}

WALKERS = {"range", "enumerate", "zip", "reversed"}
FUNCTIONS = WALKERS | set(
    "len min max sum abs sorted int str bool list tuple dict set frozenset isinstance ord repr any all divmod".split()
)
UNTAKEN_ERRORS = set(
    "Exception TypeError ArithmeticError OverflowError RuntimeError NotImplementedError AttributeError".split()
)
ERRORS = UNTAKEN_ERRORS | {"ValueError", "KeyError", "IndexError", "LookupError", "ZeroDivisionError", "StopIteration"}
PYTHONS = set(dir(builtins))
KEY_FUNCTIONS = set("len int str abs sum min max tuple".split())
KEYWORDS = {
    "sorted": {"key", "reverse"},
    "min": {"key", "default"},
    "max": {"key", "default"},
    "sum": {"start"},
    "enumerate": {"start"},
    "zip": {"strict"},
}
METHODS = set(
    """append clear copy count endswith extend find get index insert isalnum isalpha isdigit islower isspace isupper
    items join keys ljust lower lstrip partition pop remove replace reverse rfind rjust rpartition rsplit rstrip
    setdefault split splitlines startswith strip update upper values zfill bit_length""".split()
)
CHANGES = set("append clear extend insert pop remove reverse setdefault update sort add discard".split())
OWN_VALUES = set("count index title find get join lower upper split strip copy add".split())
UNDERSCORED_METHODS = {"__init__", "__eq__", "__repr__", "__str__", "__len__"}
UNDERSCORED = UNDERSCORED_METHODS | {"__all__", "__version__", "__name__"}
NOWHERE = set("register mro elements open input version_info with_traceback add_note f_back tb_next co_names".split())
NO_NAMES = set(
    """attrgetter breakpoint builtins compile copyright credits delattr dir eval exec exit gc getattr globals hasattr
    help id importlib license locals methodcaller os quit setattr super type vars""".split()
)
NO_WORDS = set(
    """type typing typing_extensions enum Enum IntEnum StrEnum Flag IntFlag Generic Protocol ABC ABCMeta namedtuple
    NamedTuple TypedDict TYPE_CHECKING abstractmethod""".split()
)
NO_FILE_NAMES = {"test", "tests", "testing", "site", "conftest", "sitecustomize", "usercustomize"} | NO_WORDS
STATEMENTS = (
    ast.Assign, ast.AugAssign, ast.AnnAssign, ast.If, ast.While, ast.For, ast.Return, ast.Break, ast.Continue,
    ast.Pass, ast.Raise, ast.Try, ast.Expr, ast.FunctionDef, ast.ClassDef, ast.Import, ast.ImportFrom,
)
EXPRESSIONS = (
    ast.Constant, ast.BinOp, ast.UnaryOp, ast.BoolOp, ast.Compare, ast.IfExp, ast.Call, ast.Attribute, ast.Subscript,
    ast.Slice, ast.ListComp, ast.JoinedStr, ast.FormattedValue, ast.Name, ast.Tuple, ast.List, ast.Dict, ast.Set,
    ast.Lambda,
)
NO_OPERATORS = (ast.Div, ast.MatMult)
CONTAINERS = (ast.List, ast.Tuple, ast.Dict)


class File:
    """One file of the package, read: its text, its tree, and each part's surroundings."""

    def __init__(self, name, text):
        self.name = name
        self.text = text
        self.lines = text.split("\n")
        self.tree = ast.parse(text)
        self.nodes = list(ast.walk(self.tree))
        self.parents = {child: node for node in self.nodes for child in ast.iter_child_nodes(node)}
        self.defs = [node for node in self.nodes if isinstance(node, ast.FunctionDef)]
        self.classes = [node for node in self.nodes if isinstance(node, ast.ClassDef)]
        self.class_names = {node.name for node in self.classes}
        self.methods = {part.name for node in self.classes for part in node.body if isinstance(part, ast.FunctionDef)}
        self.names = [node for node in self.nodes if isinstance(node, ast.Name)]
        self.imports = [node for node in self.nodes if isinstance(node, (ast.Import, ast.ImportFrom))]
        self.imported = {alias.asname or alias.name for node in self.imports for alias in node.names}
        self.values = {
            node.attr for node in self.nodes if isinstance(node, ast.Attribute) and isinstance(node.ctx, ast.Store)
        }

    def of(self, *kinds):
        return [node for node in self.nodes if isinstance(node, kinds)]

    def within(self, node, kinds):
        node = self.parents.get(node)
        while node is not None and not isinstance(node, kinds):
            node = self.parents.get(node)
        return node is not None

    def calls(self, *names):
        return [n for n in self.of(ast.Call) if isinstance(n.func, ast.Name) and n.func.id in names]

    def annotations(self):
        found = [arg.annotation for arg in self.of(ast.arg)] + [node.returns for node in self.defs]
        found += [node.annotation for node in self.of(ast.AnnAssign)]
        return {part for note in found if note is not None for part in ast.walk(note)}

    def bound(self):
        """Every name that is given something in a def: parameters and locals."""
        inside = [node for node in self.names if isinstance(node.ctx, ast.Store)]
        inside = [node for node in inside if self.within(node, (ast.FunctionDef, ast.Lambda, ast.ListComp))]
        names = [(node.id, node) for node in inside] + [(node.arg, node) for node in self.of(ast.arg)]
        return names + [(node.name, node) for node in self.of(ast.ExceptHandler) if node.name]

    def top_names(self):
        names = []
        for node in self.tree.body:
            if isinstance(node, (ast.FunctionDef, ast.ClassDef)):
                names.append(node.name)
            elif isinstance(node, ast.Assign):
                names += [target.id for target in node.targets if isinstance(target, ast.Name)]
            elif isinstance(node, ast.AnnAssign) and isinstance(node.target, ast.Name):
                names.append(node.target.id)
            elif isinstance(node, (ast.Import, ast.ImportFrom)):
                names += [alias.asname or alias.name for alias in node.names]
        return names


def is_docstring(node):
    return isinstance(node, ast.Expr) and isinstance(node.value, ast.Constant) and isinstance(node.value.value, str)


def is_plain(node, above):
    if isinstance(node, ast.UnaryOp) and isinstance(node.op, ast.USub):
        node = node.operand
    if isinstance(node, (ast.List, ast.Tuple)):
        return all(is_plain(part, above) for part in node.elts)
    if isinstance(node, ast.Dict):
        return all(is_plain(part, above) for part in node.keys + node.values)
    if isinstance(node, ast.Name):
        return node.id in above
    return isinstance(node, ast.Constant) and isinstance(node.value, (int, str, type(None)))


def import_rules(file):
    for node in file.imports:
        if file.parents[node] is not file.tree:
            yield "L2", node
        elif isinstance(node, ast.Import):
            if file.name != "__main__" or [(alias.name, alias.asname) for alias in node.names] != [("sys", None)]:
                yield "L2", node
        elif node.module == "__future__":
            if [alias.name for alias in node.names] != ["annotations"]:
                yield "L2", node
        elif node.level or (node.module + ".").split(".")[0] != PACKAGE or node.module.endswith("__main__"):
            yield "L2", node
        elif any(alias.name == "*" for alias in node.names):
            yield "L2", node


def top_rules(file):
    above = []
    for number, node in enumerate(file.tree.body):
        if isinstance(node, (ast.Import, ast.ImportFrom)):
            above += [alias.asname or alias.name for alias in node.names]
        elif isinstance(node, ast.FunctionDef):
            above.append(node.name)
        elif isinstance(node, (ast.Assign, ast.AnnAssign)):
            if node.value is None or not is_plain(node.value, above):
                yield "L3", node
            above += [part.id for part in ast.walk(node) if isinstance(part, ast.Name)]
            if isinstance(node.value, CONTAINERS):
                inner = [part for part in ast.walk(node.value) if isinstance(part, (ast.List, ast.Dict))]
                if [part for part in inner if part is not node.value]:
                    yield "L15", node
        elif isinstance(node, ast.If):
            if file.name != "__main__":
                yield "L3", node
        elif not isinstance(node, ast.ClassDef):
            if number > 0 or not is_docstring(node):
                yield "L3", node
    names = file.top_names()
    for name in names:
        if names.count(name) > 1:
            yield "L15", file.tree


def def_rules(file):
    for node in file.defs + file.of(ast.Lambda):
        given = node.args
        if given.vararg or given.kwarg or given.kwonlyargs or given.posonlyargs:
            yield "L4", node
        for default in given.defaults:
            if not isinstance(default, ast.Constant) or not isinstance(default.value, (int, str, type(None))):
                yield "L4", node
    for node in file.defs:
        if node.decorator_list:
            yield "L4", node
        if node.end_lineno - node.lineno >= 40:
            yield "L10", node
        if file.within(node, ast.FunctionDef) and (node.returns or any(arg.annotation for arg in node.args.args)):
            yield "L21", node
    for node in file.classes:
        if node.decorator_list or node.keywords or len(node.bases) > 1:
            yield "L5", node
        if not all(isinstance(part, (ast.FunctionDef, ast.Pass)) or is_docstring(part) for part in node.body):
            yield "L5", node
        for base in node.bases:
            if not isinstance(base, ast.Name) or base.id not in file.class_names | file.imported | ERRORS:
                yield "L5", node
            elif base.id in ("StopIteration", "AttributeError"):
                yield "L18", node
        if file.parents[node] is not file.tree:
            yield "L15", node
        methods = [part.name for part in node.body if isinstance(part, ast.FunctionDef)]
        if len(methods) != len(set(methods)):
            yield "L18", node


def statement_rules(file):
    for node in file.of(ast.stmt):
        if not isinstance(node, STATEMENTS):
            yield "L6", node
        elif isinstance(node, (ast.For, ast.While)) and node.orelse:
            yield "L6", node
        elif isinstance(node, ast.Assign) and len(node.targets) != 1:
            yield "L6", node
        elif isinstance(node, ast.Expr) and not isinstance(node.value, ast.Call) and not is_docstring(node):
            yield "L6", node
        elif isinstance(node, ast.Try):
            if node.finalbody or any(handler.type is None for handler in node.handlers):
                yield "L6", node
        elif isinstance(node, ast.AnnAssign):
            if node.value is None or not isinstance(node.target, ast.Name):
                yield "L21", node
    for handler in file.of(ast.ExceptHandler):
        taken = {part.id for part in ast.walk(handler.type) if isinstance(part, ast.Name)} if handler.type else set()
        if taken & UNTAKEN_ERRORS or (isinstance(handler.type, ast.Tuple) and not handler.type.elts):
            yield "L19", handler


def expression_rules(file):
    annotations = file.annotations()
    for node in file.of(ast.expr):
        if not isinstance(node, EXPRESSIONS):
            yield "L7", node
        elif isinstance(node, ast.Constant) and not isinstance(node.value, (int, str, type(None))):
            if node.value is not ... or node not in annotations:
                yield "L7", node
        elif isinstance(node, ast.BinOp) and isinstance(node.op, NO_OPERATORS):
            yield "L7", node
        elif isinstance(node, ast.ListComp):
            if len(node.generators) > 1 or len(node.generators[0].ifs) > 1:
                yield "L7", node
        elif isinstance(node, ast.FormattedValue):
            if not isinstance(node.value, ast.Name) or node.format_spec or node.conversion not in (-1, ord("r")):
                yield "L7", node
        elif isinstance(node, ast.Dict) and None in node.keys:
            yield "L7", node
        elif isinstance(node, ast.Set) and not file.within(node, (ast.FunctionDef, ast.Lambda)):
            yield "L7", node
        if isinstance(node, ast.BinOp) and isinstance(node.op, ast.Pow):
            if not isinstance(node.right, ast.Constant) or node.right.value not in range(65):
                yield "L27", node
        if isinstance(node, ast.Constant) and isinstance(node.value, str) and "%" in node.value:
            if not is_docstring(file.parents[node]):
                yield "L27", node
    for node in file.of(ast.AugAssign):
        if isinstance(node.op, NO_OPERATORS):
            yield "L7", node
    for node in file.of(ast.Compare):
        sides = [node.left] + node.comparators
        for number, operator in enumerate(node.ops):
            written = [side for side in sides[number:number + 2] if isinstance(side, ast.Constant)]
            if isinstance(operator, (ast.Is, ast.IsNot)):
                if not [side for side in written if side.value in (None, True, False) and type(side.value) is not int]:
                    yield "L20", node
    lambdas = [(node.lineno, ast.dump(node.args)) for node in file.of(ast.Lambda)]
    if len(lambdas) != len(set(lambdas)):
        yield "L13", file.tree


def name_rules(file):
    for node in file.names:
        loaded = isinstance(node.ctx, ast.Load)
        allowed = FUNCTIONS | ERRORS | {"object", "float", "bytes"} & {node.id for node in file.annotations() & {node}}
        if file.name == "__main__":
            allowed = allowed | {"print", "__name__"}
        if node.id == "chr":
            yield "L27", node
        elif loaded and node.id in PYTHONS - allowed:
            yield "L8", node
    for name, node in file.bound() + [(name, file.tree) for name in file.top_names()]:
        if name in PYTHONS and name not in UNDERSCORED:
            yield "L8", node
    for name, node in file.bound():
        if name in file.class_names | file.imported:
            yield "L15", node
    attributes = [(node.attr, node) for node in file.of(ast.Attribute)]
    named = [(node.id, node) for node in file.names] + file.bound() + [(n.name, n) for n in file.defs + file.classes]
    for name, node in attributes + named:
        if name.startswith("__") and name not in UNDERSCORED:
            yield "L8", node
        elif not re.fullmatch("[A-Za-z][A-Za-z0-9_]*", name) and name not in UNDERSCORED:
            yield "L12", node
        if name in NOWHERE:
            yield "L17", node
    for name, node in attributes:
        if name in ("format", "format_map", "mro"):
            yield "L8", node
    for name, node in named:
        if name in NO_NAMES or (name == "sys" and file.name != "__main__"):
            yield "L17", node


def text_rules(file):
    if len(file.text.rstrip("\n").split("\n")) > 399 or "\t" in file.text:
        yield "L10", file.tree
    if max(len(line) for line in file.lines) > 120:
        yield "L10", file.tree
    if re.search(r"[^ -~\n]", file.text.replace("\t", "")):
        yield "L14", file.tree
    words = re.findall("[A-Za-z0-9_]+", file.text)
    if NO_WORDS & set(words) or re.search("dataclass|overload|contextmanager", file.text):
        yield "L17", file.tree
    for token in tokenize.generate_tokens(io.StringIO(file.text).readline):
        if token.type == tokenize.STRING and re.search(r"\\[^nt\\'\"]", token.string.replace("\\\\", "")):
            yield "L27", file.tree
        if token.type == tokenize.NUMBER and len(token.string) > 900:
            yield "L27", file.tree


def class_use_rules(file):
    annotations = file.annotations()
    imported_classes = {name for name in file.imported if name[0].isupper() and not name.isupper()}
    for node in file.names:
        if node.id not in file.class_names | imported_classes or node in annotations:
            continue
        parent = file.parents[node]
        if isinstance(parent, ast.Tuple):
            parent = file.parents[parent]
        known = isinstance(parent, (ast.ClassDef, ast.ExceptHandler, ast.Raise)) or parent in file.calls("isinstance")
        called = isinstance(parent, ast.Call) and parent.func is node
        base_made = isinstance(parent, ast.Attribute) and parent.attr == "__init__"
        if not known and not called and not base_made:
            yield "L18", node
    for node in file.of(ast.Attribute):
        if isinstance(node.ctx, ast.Store) and isinstance(node.value, ast.Name):
            if node.value.id in file.top_names() and node.value.id not in [name for name, place in file.bound()]:
                yield "L18", node


def pythons_function_rules(file):
    annotations = file.annotations()
    for node in file.names:
        parent = file.parents[node]
        if node.id not in FUNCTIONS or not isinstance(node.ctx, ast.Load) or node in annotations:
            continue
        if isinstance(parent, ast.Tuple):
            parent = file.parents[parent]
        called = isinstance(parent, ast.Call) and parent.func is node
        as_key = isinstance(parent, ast.keyword) and parent.arg == "key" and node.id in KEY_FUNCTIONS
        if not called and not as_key and parent not in file.calls("isinstance"):
            yield "L22", node
    for node in file.of(ast.Call):
        given = {keyword.arg for keyword in node.keywords}
        if isinstance(node.func, ast.Name) and node.func.id in FUNCTIONS | ERRORS:
            if given - KEYWORDS.get(node.func.id, set()):
                yield "L22", node
        elif isinstance(node.func, ast.Attribute) and node.func.attr in METHODS and given:
            yield "L22", node


def is_walked(file, node):
    parent = file.parents[node]
    if isinstance(parent, (ast.For, ast.comprehension)):
        return parent.iter is node
    if not isinstance(parent, ast.Call) or node not in parent.args:
        return False
    if isinstance(parent.func, ast.Attribute):
        return parent.func.attr == "join" and isinstance(parent.func.value, ast.Constant)
    name = parent.func.id if isinstance(parent.func, ast.Name) else ""
    if name in ("min", "max"):
        return len(parent.args) == 1
    if name == "zip":
        return True
    return name in ("list", "tuple", "dict", "sorted", "sum", "any", "all", "enumerate") and parent.args[0] is node


def walked_names(node):
    """The names whose members a loop goes through: itself, or by enumerate, zip, reversed, items."""
    if isinstance(node, ast.Name):
        return {node.id}
    if isinstance(node, ast.Call) and isinstance(node.func, ast.Name) and node.func.id in WALKERS - {"range"}:
        return {name for part in node.args for name in walked_names(part)}
    if isinstance(node, ast.Call) and isinstance(node.func, ast.Attribute):
        return walked_names(node.func.value) if node.func.attr in ("items", "keys", "values") else set()
    return set()


def changed_names(statements):
    for node in [part for statement in statements for part in ast.walk(statement)]:
        if isinstance(node, ast.Subscript) and isinstance(node.ctx, ast.Store) and isinstance(node.value, ast.Name):
            yield node.value.id, node
        if isinstance(node, ast.Call) and isinstance(node.func, ast.Attribute) and node.func.attr in CHANGES:
            if isinstance(node.func.value, ast.Name):
                yield node.func.value.id, node


def walking_rules(file):
    walkers = file.calls(*WALKERS)
    own = file.methods
    for node in file.of(ast.Call):
        if isinstance(node.func, ast.Attribute) and node.func.attr in {"items", "keys", "values"} - own:
            walkers.append(node)
    for node in walkers:
        if not is_walked(file, node):
            yield "L23", node
    for node in file.of(ast.For):
        names = walked_names(node.iter)
        for name, place in changed_names(node.body):
            if name in names:
                yield "L23", place


def set_rules(file):
    for node in file.of(ast.Set) + file.calls("set", "frozenset"):
        parent = file.parents[node]
        while isinstance(parent, ast.BinOp):
            parent = file.parents[parent]
        beside = isinstance(parent, ast.Compare)
        if not beside and parent not in file.calls("sorted", "len"):
            yield "L24", node
        if isinstance(node, ast.Set) and not beside and len(node.elts) > 2:
            yield "L13", node


def container_rules(file):
    tops = {}
    for node in file.tree.body:
        if isinstance(node, ast.Assign) and isinstance(node.value, CONTAINERS):
            tops.update((target.id, node) for target in node.targets if isinstance(target, ast.Name))
    for node in file.names:
        if node.id not in tops or not isinstance(node.ctx, ast.Load):
            continue
        parent = file.parents[node]
        reading = isinstance(parent, (ast.For, ast.comprehension, ast.Compare))
        if isinstance(parent, ast.Subscript):
            reading = isinstance(parent.ctx, ast.Load)
        if isinstance(parent, ast.Attribute):
            reading = parent.attr in ("get", "index", "count", "copy", "items", "keys", "values", "join")
        if isinstance(parent, ast.Call):
            reading = isinstance(parent.func, ast.Name) and parent.func.id in FUNCTIONS
        if not reading:
            yield "L15", node


def method_rules(file):
    for node in file.classes:
        for part in node.body:
            if not isinstance(part, ast.FunctionDef):
                continue
            returned = [inner for inner in ast.walk(part) if isinstance(inner, ast.Return)]
            if part.name == "__init__" and any(inner.value is not None for inner in returned):
                yield "L28", part
            if part.name in UNDERSCORED_METHODS - {"__init__"}:
                changed = [n for n in ast.walk(part) if isinstance(n, ast.Attribute) and isinstance(n.ctx, ast.Store)]
                if changed or [inner for inner in ast.walk(part) if isinstance(inner, ast.AugAssign)]:
                    yield "L28", part


RULES = (
    import_rules, top_rules, def_rules, statement_rules, expression_rules, name_rules, text_rules, class_use_rules,
    pythons_function_rules, walking_rules, set_rules, container_rules, method_rules,
)


def attributes_of_pythons_values():
    return {name for kind in (str, int, list, dict, set, bytes) for name in dir(kind) if not name.startswith("__")}


def package_rules(files):
    """What only all files together show: names from file to file, and the methods of all classes."""
    by_module = {PACKAGE + "." + file.name: file for file in files if file.name != "__init__"}
    by_module[PACKAGE] = next((file for file in files if file.name == "__init__"), File("__init__", ""))
    methods = {name for file in files for name in file.methods} - UNDERSCORED_METHODS
    values = {name for file in files for name in file.values}
    for file in files:
        for node in file.of(ast.ImportFrom):
            source = by_module.get(node.module)
            if node.module == "__future__" or (node.module or "").split(".")[0] != PACKAGE:
                continue
            written_there = set(source.top_names()) - source.imported if source else set()
            if any(alias.name not in written_there for alias in node.names):
                yield "L16", file
        for node in file.of(ast.Call):
            if isinstance(node.func, ast.Attribute) and node.func.attr not in METHODS | methods | {"__init__"}:
                if file.name != "__main__" and node.func.attr not in values:
                    yield "L25", file
        if file.name in [name.lower() for name in by_module[PACKAGE].top_names()]:
            yield "L16", file
    if methods & values:
        yield "L18", files[0]
    taken = attributes_of_pythons_values()
    if methods & taken - METHODS - {"add", "discard"} or values & taken - OWN_VALUES:
        yield "L26", files[0]
    for file in files:
        if draws_from_itself(file, by_module):
            yield "L16", file
    for module, name in INTERFACE.items():
        homes = [f.name for f in files if name in [n.name for n in f.tree.body if hasattr(n, "name")]]
        if homes and homes != [module]:
            yield "L16", files[0]


def draws_from_itself(file, by_module):
    seen = []
    ahead = [file]
    while ahead:
        at = ahead.pop()
        for module in [node.module for node in at.of(ast.ImportFrom) if node.module in by_module]:
            found = by_module[module]
            if found is file:
                return True
            if found not in seen:
                seen.append(found)
                ahead.append(found)
    return False


def broken(files):
    """The rules that are broken, each with its file and row."""
    found = [(rule, file.name, getattr(node, "lineno", 0)) for file in files for check in RULES
             for rule, node in check(file)]
    return found + [(rule, file.name, 0) for rule, file in package_rules(files)]


def package_files():
    return [File(path.stem, path.read_text(encoding="utf-8")) for path in sorted(FOLDER.rglob("*.py"))]


def wrong_paths(paths):
    """What doesn't belong into the package's folder, by rule; Python's own left-overs aside."""
    for path in paths:
        if "__pycache__" in path:
            continue
        *folders, name = path.split("/")
        stem = name[:-3] if name.endswith(".py") else name
        if not name.endswith(".py") or not re.fullmatch("[A-Za-z0-9_]+", stem):
            yield "L1", path
        for word in folders + [stem]:
            special = word in ("__init__", "__main__")
            if word != word.lower() or word in NO_FILE_NAMES | PYTHONS or word.startswith("test_"):
                yield "L14", path
            elif word.startswith("_") and not special:
                yield "L12", path
        if stem == "__main__" and folders:
            yield "L14", path


LONG = "def f():\n" + "    g()\n" * 40
SAMPLES = [
    ("L2", "import rowseating\n"),
    ("L2", "from os import path\n"),
    ("L2", "from .planner import answers\n"),
    ("L2", "from rowseating.planner import *\n"),
    ("L2", "def f():\n    from rowseating.planner import answers\n"),
    ("L3", "print_it = len([1])\n"),
    ("L3", "for x in [1]:\n    pass\n"),
    ("L4", "def f(*xs):\n    return xs\n"),
    ("L4", "def f(*, x):\n    return x\n"),
    ("L4", "def f(x=-1):\n    return x\n"),
    ("L4", "@g\ndef f(x):\n    return x\n"),
    ("L5", "class A:\n    x = 1\n"),
    ("L5", "class A(B, C):\n    pass\n"),
    ("L6", "def f():\n    assert True\n"),
    ("L6", "def f(x):\n    del x\n"),
    ("L6", "def f():\n    a = b = 1\n    return a + b\n"),
    ("L6", "def f(x):\n    for y in x:\n        pass\n    else:\n        pass\n"),
    ("L6", "def f(x):\n    with x:\n        pass\n"),
    ("L6", "def f():\n    try:\n        g()\n    finally:\n        g()\n"),
    ("L7", "x = 1.5\n"),
    ("L7", "def f(x):\n    return x / 2\n"),
    ("L7", "def f(x):\n    return [y for z in x for y in z]\n"),
    ("L7", "def f(x):\n    return sum(y for y in x)\n"),
    ("L7", "def f(x):\n    return {y: 1 for y in x}\n"),
    ("L7", "def f(x):\n    return [*x]\n"),
    ("L7", "def f(x):\n    return f'{x:3}'\n"),
    ("L7", "def f(x):\n    yield x\n"),
    ("L8", "def f(x):\n    return round(x)\n"),
    ("L8", "def f(x):\n    return map(f, x)\n"),
    ("L8", "def f(x):\n    print(x)\n"),
    ("L8", "def f(sum):\n    return sum\n"),
    ("L8", "def f(x):\n    return x.format(1)\n"),
    ("L8", "def f(x):\n    return x.__dict__\n"),
    ("L9", "def f():\n    return open('x')\n"),
    ("L10", LONG),
    ("L10", "x = 1\n" * 400),
    ("L10", "# " + "x" * 119 + "\n"),
    ("L10", "def f():\n\treturn 1\n"),
    ("L12", "def f(x):\n    for _ in x:\n        pass\n"),
    ("L12", "def _f(x):\n    return x\n"),
    ("L13", "def f(x):\n    y = {1, 2, 3}\n    return x in y\n"),
    ("L13", "def f(x):\n    return g(lambda y: y, lambda y: x)\n"),
    ("L14", "# caf\u00e9\n"),
    ("L15", "x = 1\nx = 2\n"),
    ("L15", "x = ([1], 2)\n"),
    ("L15", "x = [1]\n\n\ndef f():\n    x.append(1)\n"),
    ("L15", "x = [1]\n\n\ndef f():\n    return x\n"),
    ("L15", "def f():\n    class A:\n        pass\n"),
    ("L17", "# of this type\n"),
    ("L17", "def f(x):\n    return getattr(x, 'a')\n"),
    ("L18", "class A:\n    pass\n\n\ndef f():\n    return [A]\n"),
    ("L18", "class A:\n    def f(self):\n        pass\n\n    def f(self):\n        pass\n"),
    ("L18", "class A:\n    def f(self):\n        self.g = 1\n\n\nclass B:\n    def g(self):\n        pass\n"),
    ("L19", "def f():\n    try:\n        g()\n    except Exception:\n        pass\n"),
    ("L20", "def f(x, y):\n    return x is y\n"),
    ("L21", "def f():\n    x: int\n    return 1\n"),
    ("L22", "def f(x):\n    y = len\n    return y(x)\n"),
    ("L22", "def f(x):\n    return int(x, base=2)\n"),
    ("L23", "def f():\n    x = range(3)\n    return x\n"),
    ("L23", "def f(x):\n    for y in x:\n        x.append(y)\n"),
    ("L23", "def f(x):\n    for n, y in enumerate(x):\n        x[n] = y\n"),
    ("L23", "def f(x):\n    return x.items()\n"),
    ("L24", "def f(x):\n    y = set(x)\n    return 1 in y\n"),
    ("L25", "def f(x):\n    x.sort()\n"),
    ("L26", "class A:\n    def encode(self):\n        pass\n"),
    ("L26", "class A:\n    def __init__(self):\n        self.items = []\n"),
    ("L27", "def f(x):\n    return 2 ** x\n"),
    ("L27", "def f():\n    return '%'\n"),
    ("L27", "def f(x):\n    return chr(x)\n"),
    ("L27", "x = '\\x41'\n"),
    ("L28", "class A:\n    def __init__(self):\n        return None\n"),
    ("L28", "class A:\n    def __len__(self):\n        self.x = 1\n        return 1\n"),
]
# By rule of L1 and L14: what may not lie in the package's folder.
PATHS = [("L1", "notes.txt"), ("L1", "a-b.py"), ("L14", "Plan.py"), ("L14", "test_plan.py"), ("L14", "sum.py"),
         ("L14", "tests/plan.py"), ("L14", "deep/__main__.py"), ("L12", "_plan.py")]
ALL_ALLOWED = '''"""What the rules let through."""

LEAST = -3
TABLE = ((1, "a"), (2, "b"))


class Refused(ValueError):
    pass


class Heap:
    def __init__(self, size):
        self.size = size
        self.parts = {}

    def put(self, key, part):
        self.parts[key] = part
        return len(self.parts)


def first_of(pairs, asked=None):
    def is_asked(pair):
        return asked is None or pair[0] == asked

    for number, pair in enumerate(list(pairs)):
        if is_asked(pair) and number >= LEAST:
            return f"{number}"
    raise Refused("none")


def words(text):
    heap = Heap(len(text))
    for word in sorted(set(text.split()), key=len, reverse=True):
        heap.put(word, [ord(sign) for sign in word if sign not in {"a", "b", "c"}])
    try:
        return [heap.parts[word] for word in text.split()][0], TABLE[0][1], 2 ** 32 % 7
    except KeyError:
        return ", ".join([str(part) for part in heap.parts.values()]), list(TABLE), max(1, 2)
'''


class Language(unittest.TestCase):
    def test_the_package_keeps_to_every_rule(self):
        files = package_files()
        self.assertIn("planner", [file.name for file in files])
        self.assertEqual(broken(files), [])

    def test_nothing_else_lies_in_the_package(self):
        paths = [path.relative_to(FOLDER).as_posix() for path in FOLDER.rglob("*") if path.is_file()]
        self.assertIn("__init__.py", paths)
        self.assertEqual(list(wrong_paths(paths)), [])
        for folder in [path for path in FOLDER.rglob("*") if path.is_dir() and path.name != "__pycache__"]:
            self.assertTrue((folder / "__init__.py").is_file(), folder)

    def test_the_interface_is_written_in_its_own_file(self):
        for module, name in INTERFACE.items():
            tree = ast.parse((FOLDER / (module + ".py")).read_text(encoding="utf-8"))
            found = [node for node in tree.body if isinstance(node, ast.FunctionDef) and node.name == name]
            self.assertEqual([[arg.arg for arg in node.args.args] for node in found], [["calls"]])
            self.assertEqual(found[0].args.defaults, [])


class Checks(unittest.TestCase):
    """The checks themselves find what breaks a rule, and let through what doesn't."""

    def test_what_breaks_a_rule_is_found(self):
        for rule, text in SAMPLES:
            # L9 has no check of its own: what it rules out is found as a name that L8 doesn't list.
            found = {rule for rule, name, row in broken([File("sample", text)])}
            self.assertIn({"L9": "L8"}.get(rule, rule), found, text)

    def test_what_breaks_a_rule_by_its_name_is_found(self):
        for rule, path in PATHS:
            self.assertIn(rule, [found for found, name in wrong_paths([path])], path)

    def test_files_that_draw_from_one_another_are_found(self):
        one = File("one", "from rowseating.two import g\n\n\ndef f():\n    return g()\n")
        two = File("two", "from rowseating.one import f\n\n\ndef g():\n    return f()\n")
        self.assertIn("L16", [rule for rule, name, row in broken([one, two])])

    def test_a_name_that_its_file_only_imports_is_found(self):
        files = [
            File("one", "from rowseating.two import f\n"),
            File("two", "from rowseating.three import f\n"),
            File("three", "def f():\n    return 1\n"),
        ]
        self.assertEqual([(rule, name) for rule, name, row in broken(files)], [("L16", "one")])

    def test_an_interface_function_in_another_file_is_found(self):
        written = "def answers(calls):\n    return []\n"
        files = [File("planner", "from rowseating.other import answers\n"), File("other", written)]
        self.assertIn("L16", [rule for rule, name, row in broken(files)])

    def test_what_the_rules_allow_is_let_through(self):
        self.assertEqual(broken([File("sample", ALL_ALLOWED)]), [])
        self.assertEqual(list(wrong_paths(["__init__.py", "__main__.py", "plan2.py", "deep/plan.py"])), [])


if __name__ == "__main__":
    unittest.main()
