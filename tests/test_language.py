"""That the package keeps to LANGUAGE.md, as far as its files show it.

Where a rule allows a form that the package has no need of, the check may refuse the form altogether: functions within
functions (L4), sets (L13, L24), `raise .. from` (L19), annotations (L21) and methods with two underscores beside
`__init__` (L28) are such forms. L9 is held to by L2 and L8, which leave no way to read or print; of L11, that sets are
out leaves nothing that a file could show.
"""

import ast
import builtins
import pathlib
import re
import unittest

PACKAGE = pathlib.Path(__file__).resolve().parent.parent / "pentrail"

PYTHONS_OWN = set(dir(builtins))
ERRORS = set("""Exception ValueError TypeError KeyError IndexError LookupError ZeroDivisionError ArithmeticError
    OverflowError RuntimeError NotImplementedError AttributeError StopIteration""".split())
FUNCTIONS = set("""len range enumerate zip min max sum abs sorted reversed int str bool list tuple dict set frozenset
    isinstance ord repr any all divmod""".split())
DUNDERS = set("__init__ __eq__ __repr__ __str__ __len__".split())
METHODS = set("""append clear copy count endswith extend find get index insert isalnum isalpha isdigit islower isspace
    isupper items join keys ljust lower lstrip partition pop remove replace reverse rfind rjust rpartition rsplit
    rstrip setdefault split splitlines startswith strip update upper values zfill bit_length""".split())
CHANGING = set("append clear extend insert pop remove reverse setdefault update add discard".split())
VALUES_ALLOWED = set("count index title find get join lower upper split strip copy add".split())
VALUES_REFUSED = set("""items keys values pop update append clear extend insert remove reverse setdefault sort args
    encode format""".split())
OWN_OF_VALUES = set().union(*(dir(kind) for kind in (str, int, list, dict, set, bytes)))
FORBIDDEN_NAMES = set("""attrgetter breakpoint builtins compile copyright credits delattr dir eval exec exit gc getattr
    globals hasattr help id importlib license locals methodcaller os quit setattr super type vars sys __name__""".split())
FORBIDDEN_ANYWHERE = set("""register mro elements open input version_info with_traceback add_note f_back f_code
    f_globals f_locals f_builtins f_lineno f_trace tb_next tb_frame tb_lineno tb_lasti co_names co_code co_consts
    co_varnames format format_map""".split())
FORBIDDEN_WORDS = set("""type typing typing_extensions enum Enum IntEnum StrEnum Flag IntFlag Generic Protocol ABC
    ABCMeta namedtuple NamedTuple TypedDict TYPE_CHECKING abstractmethod""".split())
FORBIDDEN_PARTS = ("dataclass", "overload", "contextmanager")
FILE_NAMES_REFUSED = set("test tests testing site conftest sitecustomize usercustomize".split())
KEYWORDS = {"sorted": {"key", "reverse"}, "min": {"key", "default"}, "max": {"key", "default"}, "sum": {"start"},
            "enumerate": {"start"}, "zip": {"strict"}}
WALKED = {"zip", "enumerate", "reversed", "range"}
WALKED_METHODS = {"items", "keys", "values"}
WALKERS = set("list tuple dict sorted sum any all enumerate zip min max".split())

STATEMENTS = (ast.Assign, ast.AugAssign, ast.If, ast.While, ast.For, ast.Return, ast.Break, ast.Continue, ast.Pass,
              ast.Raise, ast.Try, ast.Expr, ast.FunctionDef, ast.ClassDef, ast.ImportFrom)
EXPRESSIONS = (ast.Constant, ast.List, ast.Tuple, ast.Dict, ast.BinOp, ast.UnaryOp, ast.BoolOp, ast.Compare, ast.IfExp,
               ast.Call, ast.Attribute, ast.Subscript, ast.Slice, ast.ListComp, ast.JoinedStr, ast.FormattedValue,
               ast.Name, ast.Lambda)


def nodes(tree, kind):
    return [node for node in ast.walk(tree) if isinstance(node, kind)]


def parents(tree):
    return {child: node for node in ast.walk(tree) for child in ast.iter_child_nodes(node)}


def is_plain(value, functions):
    if isinstance(value, (ast.Tuple, ast.List)):
        return all(is_plain(part, functions) for part in value.elts)
    if isinstance(value, ast.Dict):
        return all(is_plain(part, functions) for part in value.keys + value.values)
    if isinstance(value, ast.UnaryOp) and isinstance(value.op, ast.USub):
        value = value.operand
    if isinstance(value, ast.Name):
        return value.id in functions
    return isinstance(value, ast.Constant)


def is_plain_default(value):
    """A whole number, a text, True, False or None; what is made of parts is none, an empty tuple neither."""
    if isinstance(value, ast.UnaryOp) and isinstance(value.op, ast.USub):
        return isinstance(value.operand, ast.Constant) and type(value.operand.value) is int
    return isinstance(value, ast.Constant) and type(value.value) in (int, str, bool, type(None))


def called(node):
    return node.func.id if isinstance(node, ast.Call) and isinstance(node.func, ast.Name) else None


def called_method(node):
    return node.func.attr if isinstance(node, ast.Call) and isinstance(node.func, ast.Attribute) else None


def is_docstring(statement):
    return isinstance(statement, ast.Expr) and isinstance(statement.value, ast.Constant)


class Module:
    """One file and what it binds."""

    def __init__(self, name, source):
        self.name = name
        self.source = source
        self.tree = ast.parse(source)
        self.parents = parents(self.tree)
        self.functions = [node.name for node in self.tree.body if isinstance(node, ast.FunctionDef)]
        self.classes = [node.name for node in self.tree.body if isinstance(node, ast.ClassDef)]
        self.imports = [(node.module, alias.name) for node in nodes(self.tree, ast.ImportFrom) for alias in node.names]
        self.constants = [target.id for node in self.tree.body if isinstance(node, ast.Assign)
                          for target in node.targets if isinstance(target, ast.Name)]

    def bound(self):
        return self.functions + self.classes + [name for module, name in self.imports] + self.constants


def files_at_fault(names):
    for name in names:
        stem = name[:-3]
        if not re.fullmatch(r"[a-z0-9_]+\.py", name):
            yield ("L1", name)
        if stem in FILE_NAMES_REFUSED | PYTHONS_OWN | {word.lower() for word in FORBIDDEN_WORDS} \
                or stem.startswith("test_"):
            yield ("L14", name)
    if "__init__.py" not in names:
        yield ("L14", "__init__.py")


def signs_at_fault(module):
    lines = module.source.split("\n")
    if len(lines) - 1 > 400:
        yield ("L10", 400)
    for number, line in enumerate(lines, start=1):
        if len(line) > 120 or "\t" in line:
            yield ("L10", number)
        if not all(" " <= sign <= "~" for sign in line):
            yield ("L14", number)
        for word in re.findall(r"\w+", line):
            if word in FORBIDDEN_WORDS or any(part in word for part in FORBIDDEN_PARTS):
                yield ("L17", number)
    for escape in re.findall(r"\\(.)", module.source, re.DOTALL):
        if escape not in "nt\\'\"":
            yield ("L27", 0)


def imports_at_fault(module):
    for node in nodes(module.tree, (ast.Import, ast.ImportFrom)):
        if isinstance(node, ast.Import):
            yield ("L16", node.lineno)
        elif node.level or not (node.module or "").startswith("pentrail.") or node.module == "pentrail.__main__":
            yield ("L2", node.lineno)
        elif any(alias.name == "*" for alias in node.names) or node not in module.tree.body:
            yield ("L2", node.lineno)


def top_at_fault(module):
    for place, node in enumerate(module.tree.body):
        if isinstance(node, ast.Assign):
            above = [part.name for part in module.tree.body[:place] if isinstance(part, ast.FunctionDef)]
            if not isinstance(node.targets[0], ast.Name) or not is_plain(node.value, above):
                yield ("L3", node.lineno)
            elif any(isinstance(part, (ast.List, ast.Dict)) for part in list(ast.walk(node.value))[1:]):
                yield ("L15", node.lineno)
        elif not isinstance(node, (ast.ImportFrom, ast.FunctionDef, ast.ClassDef)) and not (
                place == 0 and is_docstring(node)):
            yield ("L3", node.lineno)
    bound = module.bound()
    if len(set(bound)) < len(bound):
        yield ("L15", 0)


def functions_at_fault(module):
    for node in nodes(module.tree, (ast.FunctionDef, ast.Lambda)):
        given = node.args
        if given.vararg or given.kwarg or given.kwonlyargs or given.posonlyargs:
            yield ("L4", node.lineno)
        if not all(is_plain_default(value) for value in given.defaults):
            yield ("L4", node.lineno)
        if isinstance(node, ast.Lambda):
            continue
        if not isinstance(module.parents[node], (ast.Module, ast.ClassDef)):
            yield ("L4", node.lineno)
        if node.decorator_list:
            yield ("L4", node.lineno)
        if node.end_lineno - node.lineno + 1 > 40:
            yield ("L10", node.lineno)
        if node.returns or any(argument.annotation for argument in given.args):
            yield ("L21", node.lineno)
        if node.name == "__init__" and any(isinstance(part, ast.Return) for part in ast.walk(node)):
            yield ("L28", node.lineno)
        if node.name in DUNDERS - {"__init__"}:
            yield ("L28", node.lineno)
    seen = [(node.lineno, ast.unparse(node.args)) for node in nodes(module.tree, ast.Lambda)]
    for line, given in seen:
        if seen.count((line, given)) > 1:
            yield ("L13", line)


def classes_at_fault(module, package_classes):
    for node in nodes(module.tree, ast.ClassDef):
        if node not in module.tree.body:
            yield ("L15", node.lineno)
        if node.decorator_list or node.keywords or len(node.bases) > 1:
            yield ("L5", node.lineno)
        for base in node.bases:
            if not isinstance(base, ast.Name) or base.id not in ERRORS | package_classes:
                yield ("L5", node.lineno)
            elif base.id in ("StopIteration", "AttributeError"):
                yield ("L18", node.lineno)
        if not all(isinstance(part, (ast.FunctionDef, ast.Pass)) for part in node.body):
            yield ("L5", node.lineno)
        names = [part.name for part in node.body if isinstance(part, ast.FunctionDef)]
        if len(set(names)) < len(names):
            yield ("L18", node.lineno)
        if any(name.startswith("__") and name not in DUNDERS for name in names):
            yield ("L5", node.lineno)


def statements_at_fault(module):
    for node in nodes(module.tree, ast.stmt):
        if not isinstance(node, STATEMENTS):
            yield ("L6", node.lineno)
        elif isinstance(node, ast.Assign) and (len(node.targets) > 1
                                               or isinstance(node.targets[0], (ast.Tuple, ast.List))):
            yield ("L6", node.lineno)
        elif isinstance(node, (ast.For, ast.While)) and node.orelse:
            yield ("L6", node.lineno)
        elif isinstance(node, ast.Try) and node.finalbody:
            yield ("L6", node.lineno)
        elif isinstance(node, ast.Expr) and not isinstance(node.value, ast.Call) and node != module.tree.body[0]:
            yield ("L6", node.lineno)


def expressions_at_fault(module):
    for node in nodes(module.tree, ast.expr):
        if not isinstance(node, EXPRESSIONS):
            yield ("L7", node.lineno)
        elif isinstance(node, ast.Constant) and not isinstance(node.value, (int, str, bool, type(None))):
            yield ("L7", node.lineno)
        elif isinstance(node, ast.ListComp) and (len(node.generators) > 1 or len(node.generators[0].ifs) > 1):
            yield ("L7", node.lineno)
        elif isinstance(node, ast.FormattedValue) and not (
                isinstance(node.value, ast.Name) and node.conversion in (-1, ord("r")) and node.format_spec is None):
            yield ("L7", node.lineno)
        elif isinstance(node, ast.Compare) and any(isinstance(op, (ast.Is, ast.IsNot)) for op in node.ops):
            sides = [node.left] + node.comparators
            if not any(isinstance(side, ast.Constant) and isinstance(side.value, (bool, type(None)))
                       for side in sides):
                yield ("L20", node.lineno)
    for node in nodes(module.tree, (ast.BinOp, ast.AugAssign)):
        if isinstance(node.op, (ast.Div, ast.MatMult)):
            yield ("L7", node.lineno)
        if isinstance(node.op, ast.Pow):
            power = node.right if isinstance(node, ast.BinOp) else node.value
            if not isinstance(power, ast.Constant) or not 0 <= power.value <= 64:
                yield ("L27", node.lineno)
    for node in nodes(module.tree, ast.Constant):
        if isinstance(node.value, str) and "%" in node.value:
            yield ("L27", node.lineno)
        if type(node.value) is int and node.value >= 10 ** 900:
            yield ("L27", node.lineno)


def all_names(module):
    """Each name that a file has, its line, and whether it is bound there."""
    for node in ast.walk(module.tree):
        if isinstance(node, ast.Name):
            yield (node.id, node.lineno, isinstance(node.ctx, ast.Store))
        elif isinstance(node, ast.arg):
            yield (node.arg, node.lineno, True)
        elif isinstance(node, (ast.FunctionDef, ast.ClassDef)):
            yield (node.name, node.lineno, False)
        elif isinstance(node, ast.ExceptHandler) and node.name:
            yield (node.name, node.lineno, True)
        elif isinstance(node, ast.Attribute):
            yield (node.attr, node.lineno, False)
        elif isinstance(node, ast.keyword):
            yield (node.arg or "*", node.lineno, False)
        elif isinstance(node, ast.alias):
            yield (node.asname or node.name, node.lineno, False)


def names_at_fault(module):
    taken = set(module.classes) | {name for file, name in module.imports}
    for name, line, binds in all_names(module):
        if not re.fullmatch(r"[A-Za-z][A-Za-z0-9_]*", name) and name not in DUNDERS:
            yield ("L12", line)
        if name in FORBIDDEN_ANYWHERE:
            yield ("L17", line)
        if binds and name in taken | PYTHONS_OWN:
            yield ("L15", line)
        if binds and name in FORBIDDEN_NAMES:
            yield ("L17", line)
    for name in module.functions + module.classes + module.constants:
        if name in PYTHONS_OWN:
            yield ("L8", 0)
        if name in FORBIDDEN_NAMES:
            yield ("L17", 0)
    for node in nodes(module.tree, ast.Name):
        if node.id in FORBIDDEN_NAMES:
            yield ("L17", node.lineno)
        if node.id in PYTHONS_OWN and node.id not in FUNCTIONS | ERRORS:
            yield ("L8", node.lineno)


def is_right_keyword(keyword):
    if keyword.arg in ("reverse", "strict"):
        return isinstance(keyword.value, ast.Constant) and type(keyword.value.value) is bool
    if keyword.arg == "key":
        name = keyword.value.id if isinstance(keyword.value, ast.Name) else ""
        return name not in PYTHONS_OWN - set("len int str abs sum min max tuple".split())
    return True


def is_right_kind(kind, package_classes):
    names = kind.elts if isinstance(kind, ast.Tuple) else [kind]
    known = package_classes | ERRORS | set("int str bool list tuple dict".split())
    return all(isinstance(name, ast.Name) and name.id in known for name in names)


def calls_at_fault(module, package_classes):
    for node in nodes(module.tree, ast.Call):
        name = called(node) or called_method(node)
        own = called(node) in PYTHONS_OWN or called_method(node) in METHODS
        allowed = KEYWORDS.get(called(node), set())
        if own and any(keyword.arg not in allowed for keyword in node.keywords):
            yield ("L22", node.lineno)
        for keyword in node.keywords:
            if own and not is_right_keyword(keyword):
                yield ("L22", node.lineno)
        if called(node) == "isinstance" and not is_right_kind(node.args[1], package_classes):
            yield ("L22", node.lineno)
        if called(node) in ("set", "frozenset"):
            yield ("L24", node.lineno)
        if called(node) in WALKED or called_method(node) in WALKED_METHODS:
            parent = module.parents[node]
            walked = isinstance(parent, (ast.For, ast.comprehension)) and parent.iter == node
            if not walked and not (called(parent) in WALKERS and parent.args[0] == node):
                yield ("L23", node.lineno)
        if name is None:
            yield ("L22", node.lineno)
    for node in nodes(module.tree, ast.Name):
        parent = module.parents[node]
        if node.id in FUNCTIONS and not (isinstance(parent, ast.Call) and parent.func == node):
            if called(parent) != "isinstance" and not isinstance(parent, (ast.keyword, ast.Tuple)):
                yield ("L22", node.lineno)


def methods_at_fault(module, package_methods):
    for node in nodes(module.tree, ast.Call):
        if called_method(node) and called_method(node) not in METHODS | package_methods | {"__init__"}:
            yield ("L25", node.lineno)
    for node in nodes(module.tree, ast.Attribute):
        parent = module.parents[node]
        is_called = isinstance(parent, ast.Call) and parent.func == node
        if node.attr in METHODS - VALUES_ALLOWED | package_methods and not is_called:
            if not isinstance(parent, ast.keyword):
                yield ("L25", node.lineno)


def changed_in(tree):
    """What is changed within a piece of code, each as it is written there."""
    for node in ast.walk(tree):
        if called_method(node) in CHANGING:
            yield (ast.unparse(node.func.value), node.lineno)
        elif isinstance(node, ast.Subscript) and isinstance(node.ctx, (ast.Store, ast.Del)):
            yield (ast.unparse(node.value), node.lineno)
        elif isinstance(node, ast.AugAssign):
            yield (ast.unparse(node.target), node.lineno)


def changes_at_fault(module):
    for name, line in changed_in(module.tree):
        if name in module.constants:
            yield ("L15", line)
    for loop in nodes(module.tree, ast.For):
        walked = {ast.unparse(part) for part in ast.walk(loop.iter) if isinstance(part, (ast.Name, ast.Attribute))}
        if called(loop.iter) in ("range", "list", "sorted"):
            walked = set()
        for statement in loop.body:
            for name, line in changed_in(statement):
                if name in walked:
                    yield ("L23", line)
    for node in nodes(module.tree, ast.Attribute):
        if isinstance(node.ctx, ast.Store):
            if not isinstance(node.value, ast.Name) or node.value.id in module.bound():
                yield ("L18", node.lineno)


def kept_at_top(modules):
    """The names of lists and dicts at the top of files."""
    return {node.targets[0].id for module in modules for node in module.tree.body
            if isinstance(node, ast.Assign) and isinstance(node.value, (ast.List, ast.Dict))
            and isinstance(node.targets[0], ast.Name)}


def only_read(node, parent):
    if isinstance(parent, ast.Subscript):
        return parent.value == node and isinstance(parent.ctx, ast.Load)
    if isinstance(parent, (ast.For, ast.comprehension)):
        return parent.iter == node
    if isinstance(parent, ast.Attribute):
        return parent.attr in ("get", "items", "keys", "values", "index", "count", "copy")
    return isinstance(parent, ast.Compare) or called(parent) in WALKERS | {"len", "reversed"}


def kept_at_fault(module, kept):
    for node in nodes(module.tree, ast.Name):
        if node.id in kept and isinstance(node.ctx, ast.Load) and not only_read(node, module.parents[node]):
            yield ("L15", node.lineno)


def shown_classes_at_fault(module, package_classes):
    for node in nodes(module.tree, ast.Name):
        parent = module.parents[node]
        if isinstance(parent, ast.Tuple):
            node, parent = parent, module.parents[parent]
        shown = not isinstance(parent, (ast.ExceptHandler, ast.ClassDef, ast.Raise)) and called(parent) != "isinstance"
        if shown and isinstance(parent, ast.Call):
            shown = parent.func != node
        if isinstance(parent, ast.Attribute) and parent.attr == "__init__":
            shown = False
        names = {part.id for part in ast.walk(node) if isinstance(part, ast.Name)}
        if shown and names & (package_classes | ERRORS):
            yield ("L18", node.lineno)


def errors_at_fault(module, package_errors):
    for node in nodes(module.tree, ast.ExceptHandler):
        taken = node.type.elts if isinstance(node.type, ast.Tuple) else [node.type]
        for name in taken:
            if not isinstance(name, ast.Name) or name.id not in package_errors | {
                    "KeyError", "ZeroDivisionError", "StopIteration", "ValueError", "LookupError", "IndexError"}:
                yield ("L19", node.lineno)
    for node in nodes(module.tree, ast.Try):
        own_alone = {name.id for handler in node.handlers for name in ast.walk(handler.type or handler)
                     if isinstance(name, ast.Name)} <= package_errors | {"KeyError", "ZeroDivisionError"}
        if not own_alone and (len(node.body) > 1 or len(nodes(node.body[0], ast.Call)) > 1):
            yield ("L19", node.lineno)
    for node in nodes(module.tree, ast.Raise):
        if called(node.exc) not in package_errors | ERRORS or node.cause is not None:
            yield ("L19", node.lineno)


def package_at_fault(modules):
    """What only all the files together show."""
    by_name = {f"pentrail.{module.name}": module for module in modules}
    draws = {name: {file for file, drawn in module.imports} for name, module in by_name.items()}
    for module in modules:
        if module.name == "__init__" and set(module.bound()) & {other.name for other in modules}:
            yield ("L16", "__init__.py")
    for name, module in by_name.items():
        for file, drawn in module.imports:
            there = by_name.get(file)
            if there is None or drawn not in there.functions + there.classes + there.constants:
                yield ("L16", name)
        reached = set(draws[name])
        while True:
            more = reached.union(*(draws.get(file, set()) for file in reached))
            if more == reached:
                break
            reached = more
        if name in reached:
            yield ("L16", name)
    methods = method_names(modules)
    values = value_names(modules)
    for name in sorted(methods & values):
        yield ("L18", name)
    for name in sorted(methods):
        if name in OWN_OF_VALUES and name not in DUNDERS | METHODS | {"add", "discard"}:
            yield ("L26", name)
    for name in sorted(values):
        if name in VALUES_REFUSED or (name in OWN_OF_VALUES and name not in VALUES_ALLOWED):
            yield ("L26", name)


def class_parts(modules):
    return [part for module in modules for node in nodes(module.tree, ast.ClassDef) for part in node.body
            if isinstance(part, ast.FunctionDef)]


def method_names(modules):
    return {part.name for part in class_parts(modules)} - DUNDERS


def value_names(modules):
    return {node.attr for module in modules for node in nodes(module.tree, ast.Attribute)
            if isinstance(node.ctx, ast.Store)}


def error_names(modules):
    return {node.name for module in modules for node in nodes(module.tree, ast.ClassDef)
            if any(isinstance(base, ast.Name) and base.id in ERRORS for base in node.bases)}


def all_faults(sources):
    """Of files by their names: each rule that is broken, and where."""
    modules = [Module(name[:-3], source) for name, source in sorted(sources.items())]
    classes = {name for module in modules for name in module.classes}
    found = list(files_at_fault(list(sources))) + list(package_at_fault(modules))
    for module in modules:
        for check in (signs_at_fault, imports_at_fault, top_at_fault, functions_at_fault, statements_at_fault,
                      expressions_at_fault, names_at_fault, changes_at_fault):
            found += [(rule, f"{module.name}.py", place) for rule, place in check(module)]
        for check, known in ((classes_at_fault, classes), (calls_at_fault, classes), (shown_classes_at_fault, classes),
                             (methods_at_fault, method_names(modules)), (errors_at_fault, error_names(modules)),
                             (kept_at_fault, kept_at_top(modules))):
            found += [(rule, f"{module.name}.py", place) for rule, place in check(module, known)]
    return found


class ThePackage(unittest.TestCase):
    def test_it_keeps_to_the_rules(self):
        sources = {path.name: path.read_bytes().decode("utf-8") for path in PACKAGE.glob("*.py")}
        self.assertIn("world.py", sources)
        self.assertEqual(all_faults(sources), [])

    def test_nothing_else_lies_in_it(self):
        others = [path.name for path in PACKAGE.iterdir() if path.suffix != ".py" and path.name != "__pycache__"]
        self.assertEqual(others, [])

    def test_python_3_11_can_read_it(self):
        for path in PACKAGE.glob("*.py"):
            ast.parse(path.read_text(encoding="utf-8"), feature_version=(3, 11))


BROKEN = """
L1 A.py|x = 1
L14 sum.py|x = 1
L14 test_a.py|x = 1
L16 a.py|import sys
L2 a.py|from sys import path
L2 a.py|from pentrail.b import *
L2 a.py|from .b import y
L2 a.py|def f():;    from pentrail.b import y;    return y
L16 a.py|from pentrail.b import missing
L16 a.py|from pentrail.c import z
L3 a.py|x = len("a")
L3 a.py|if True:;    x = 1
L3 a.py|x = (f, 1);def f():;    return 1
L4 a.py|def f(*xs):;    return xs
L4 a.py|def f(x, *, y):;    return x
L4 a.py|def f(x):;    def g():;        return x;    return g()
L4 a.py|def f(x=len("")):;    return x
L4 a.py|def f(x=()):;    return x
L4 a.py|def f(x, y=(1, 2)):;    return x
L4 a.py|def f(x=[]):;    return x
L4 a.py|def f(x={}):;    return x
L4 a.py|def f(x=1, y={1: 2}):;    return x
L4 a.py|def f(x=-y):;    return x
L4 a.py|def g():;    return 1;def f(x=g):;    return x
L4 a.py|def f(x):;    return sorted(x, key=lambda y=(): y)
L4 a.py|class C:;    def __init__(self, x=()):;        self.x = x
L4 a.py|class C:;    def put(self, x=[]):;        self.x = x
L5 a.py|class C(int):;    pass
L5 a.py|class C:;    x = 1
L5 a.py|class C:;    def __add__(self, other):;        return 1
L6 a.py|def f(x):;    assert x
L6 a.py|def f(x):;    y = z = x;    return y + z
L6 a.py|def f(x):;    y, z = x;    return y + z
L6 a.py|def f(x):;    while x:;        x -= 1;    else:;        x = 2
L6 a.py|def f(x):;    with x:;        pass
L6 a.py|def f(x):;    x + 1
L6 a.py|def f(x):;    yield x
L7 a.py|def f(x):;    return x / 2
L7 a.py|def f(x):;    return 1.5
L7 a.py|def f(x):;    return b"x"
L7 a.py|def f(x):;    return {y: y for y in x}
L7 a.py|def f(x):;    return [y for z in x for y in z]
L7 a.py|def f(x):;    return f"{x + 1}"
L7 a.py|def f(x):;    return (y := x)
L7 a.py|def f(x):;    return [*x]
L8 a.py|def f(x):;    return hash(x)
L8 a.py|def f(x):;    return chr(x)
L8 a.py|def f(x):;    print(x)
L8 a.py|def sum(x):;    return x
L10 a.py|def f(x):LONG
L10 a.py|x = "WIDE"
L12 a.py|def f(x):;    for _ in x:;        pass
L12 a.py|def _f(x):;    return x
L12 a.py|from pentrail.b import y as _y
L13 a.py|def f(x):;    return (lambda y: y)(x) + (lambda y: 1)(x)
L14 a.py|# \u00e4
L15 a.py|x = 1;x = 2
L15 a.py|x = [[1]]
L15 a.py|x = [1];def f():;    x.append(1)
L15 a.py|x = {1: 1};def f():;    x[2] = 1
L15 a.py|x = [1];def f():;    return x
L15 a.py|x = [1];def f(y):;    y.append(x)
L15 a.py|x = {1: 2};def f(y):;    return f(x)
L15 a.py|x = [1];def f():;    y = x;    return y[0]
L15 a.py|def f(next):;    return next
L15 a.py|class C:;    pass;def f(C):;    return 1
L16 a.py|import pentrail.b
L16 __init__.py|b = 1
L17 a.py|# a type
L17 a.py|def f(x):;    return x.mro
L17 a.py|def f(x):;    return getattr(x, "y")
L17 a.py|def f(gc):;    return 1
L17 a.py|def os(x):;    return 1
L18 a.py|class C(AttributeError):;    pass
L18 a.py|class C:;    def g(self):;        self.g = 1
L18 a.py|class C:;    pass;def f():;    C.x = 1
L18 a.py|class C:;    pass;def f():;    return C
L18 a.py|class C:;    pass;def f():;    return [C]
L18 a.py|class C:;    pass;def f(x):;    return f(C)
L18 a.py|def f():;    return ValueError
L19 a.py|def f(x):;    try:;        return x();    except Exception:;        return 1
L19 a.py|def f(x):;    try:;        return x[0];    except:;        return 1
L19 a.py|def f(x):;    try:;        y = f(x);        return x[0];    except IndexError:;        return 1
L19 a.py|def f(x):;    raise x
L19 a.py|def f(x):;    raise ValueError("") from x
L20 a.py|def f(x):;    return x is f
L21 a.py|def f(x: int):;    return x
L22 a.py|def f(x):;    return sorted(x, key=f, other=1)
L22 a.py|def f(x):;    y = len;    return y(x)
L22 a.py|def f(x):;    return sorted(x, reverse=x)
L22 a.py|def f(x):;    return sorted(x, key=ord)
L22 a.py|def f(x, y):;    return isinstance(x, y)
L22 a.py|def f(x):;    return x.split(sep=" ")
L23 a.py|def f(x):;    y = x.items();    return y
L23 a.py|def f(x):;    return zip(x, x)
L23 a.py|def f(x):;    for y in x:;        x.append(y)
L24 a.py|def f(x):;    return set(x)
L25 a.py|def f(x):;    x.sort()
L25 a.py|def f(x):;    y = x.append;    y(1)
L26 a.py|class C:;    def sort(self):;        return 1
L26 a.py|class C:;    def __init__(self):;        self.values = 1
L26 a.py|class C:;    def __init__(self):;        self.real = 1
L27 a.py|def f(x):;    return 2 ** x
L27 a.py|def f(x):;    return 2 ** 65
L27 a.py|x = "100%"
L27 a.py|x = "\\x41"
L28 a.py|class C:;    def __init__(self):;        return None
L28 a.py|class C:;    def __len__(self):;        return 1
"""


class TheChecks(unittest.TestCase):
    """A check that finds nothing anywhere would be none."""

    OTHERS = {"__init__.py": '"""A package."""\n', "b.py": "y = 1\n",
              "c.py": "from pentrail.a import x\nz = 1\n"}

    def faults(self, name, source):
        others = self.OTHERS if "pentrail.c" in source else {**self.OTHERS, "c.py": "z = 1\n"}
        return all_faults({**others, name: source})

    def test_each_broken_rule_is_seen(self):
        for line in BROKEN.strip().split("\n"):
            head, source = line.split("|", 1)
            rule, name = head.split(" ")
            source = source.replace("LONG", ";    x = 1" * 41).replace("WIDE", "A" * 120).replace(";", "\n") + "\n"
            if "pentrail.c" in source:
                source += "x = 1\n"
            self.assertIn(rule, [found[0] for found in self.faults(name, source)], line)

    def test_what_keeps_to_the_rules_is_let_through(self):
        source = '\n'.join((
            '"""A file."""', '', 'from pentrail.b import y', '', 'LIST = [1, (2, 3)]', 'BELOW = -1', '', '',
            'class Refused(ValueError):', '    def __init__(self, place):', '        self.place = place', '', '',
            'class Box:', '    def __init__(self, held, most=-1, name="", full=False):',
            '        self.held = list(held)', '',
            '    def put(self, x=None):', '        self.held.append(x)', '        self.held[0] += 2 ** 64', '', '',
            'def walk(xs, d):', '    found = [x * y for x in xs if x is not None]', '    box = Box(found)',
            '    for k, x in enumerate(xs, start=1):', '        box.put(k + x)', '    try:', '        walk(xs, d)',
            '    except Refused as e:', '        return e.place', '    if BELOW in LIST or not xs:',
            '        raise Refused(len(xs))', '    return f"{found!r}" + str(sum(d.values()))', ''))
        self.assertEqual(self.faults("a.py", source), [])


if __name__ == "__main__":
    unittest.main()
