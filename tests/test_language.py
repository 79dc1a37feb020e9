"""Looks at the files of the package by the rules of LANGUAGE.md, as far as a look at the code can tell.

Each check is a generator of pairs (line, what is wrong), called with the name of a file and its tree. Where a rule
lets more than the package uses, a check may bar more than the rule.
"""

import ast
import builtins
import io
import pathlib
import re
import tokenize
import unittest

PACKAGE = pathlib.Path(__file__).resolve().parent.parent / "rowsback"
FILES = sorted(PACKAGE.glob("*.py"))
# Nothing of itertools: a desk is iterated over and has a length (L2 Products).
LIBRARY = {
    "heapq": {"heappush", "heappop", "heapify", "heapreplace", "heappushpop"},
    "math": {"gcd", "lcm", "isqrt", "comb", "perm", "factorial"},
}
BUILTINS = set("""len range enumerate zip min max sum abs sorted reversed int str bool bytes list tuple dict set
    isinstance ord repr any all divmod iter next map super property staticmethod classmethod Exception ValueError
    TypeError KeyError IndexError LookupError ZeroDivisionError ArithmeticError OverflowError RuntimeError
    NotImplementedError AttributeError StopIteration NotImplemented""".split())
METHODS = set("""append clear copy count endswith extend find get index insert isalnum isalpha isdigit islower isspace
    isupper items join keys ljust lower lstrip partition pop remove replace reverse rfind rjust rpartition rsplit rstrip
    setdefault split splitlines startswith strip update upper values zfill bit_length title capitalize swapcase casefold
    center expandtabs removeprefix removesuffix rindex isascii isdecimal isnumeric istitle isidentifier isprintable
    translate add discard""".split())
ATTRIBUTES = set("count index title find get join lower upper split strip copy add".split())
NEVER = set("register mro elements open input law version_info with_traceback add_note".split())
NO_NAMES = set("""attrgetter breakpoint builtins compile copyright credits delattr dir eval exec exit gc getattr globals
    hasattr help id importlib license locals methodcaller os quit setattr type vars sys _cold _tuplegetter _outside
    _record _written_out _member_names""".split())
NO_WORDS = set("""type typing typing_extensions enum Enum IntEnum StrEnum Flag IntFlag Generic Protocol ABC ABCMeta
    namedtuple NamedTuple TypedDict TYPE_CHECKING abstractmethod""".split())
NO_STARTS = ("_wall", "_pe_", "_dcw_", "_enum_", "_cm_", "_twin_re_", "_lay_", "_law_", "_stub_", "_sre", "_WallAttr")
DOUBLE = set("""__init__ __eq__ __repr__ __str__ __len__ __enter__ __exit__ __call__ __iter__ __contains__
    __getitem__""".split())
STATEMENTS = (
    ast.Assign, ast.AugAssign, ast.If, ast.While, ast.For, ast.Return, ast.Break, ast.Continue, ast.Pass, ast.Raise,
    ast.Assert, ast.Delete, ast.Nonlocal, ast.Match, ast.With, ast.Try, ast.Expr, ast.FunctionDef, ast.ClassDef,
    ast.ImportFrom,
)
CHANGING = set("append clear extend insert pop remove reverse setdefault sort update".split())
AT_ONCE = set("list tuple dict sorted sum any all enumerate zip bytes min max".split())
GENERATOR_HOLDERS = set("list tuple dict join".split())


def tree_of(text):
    tree = ast.parse(text)
    for node in ast.walk(tree):
        for child in ast.iter_child_nodes(node):
            child.parent = node
    return tree


def called_name(node):
    """Return the name of the function or method that is called, "" if this is no call."""
    if not isinstance(node, ast.Call):
        return ""
    return getattr(node.func, "id", getattr(node.func, "attr", ""))


def bound_names(tree):
    """Return pairs (name, line) of all that is bound: variables, parameters, functions, classes, imports."""
    found = []
    for node in ast.walk(tree):
        if isinstance(node, ast.Name) and not isinstance(node.ctx, ast.Load):
            found.append((node.id, node.lineno))
        elif isinstance(node, ast.arg):
            found.append((node.arg, node.lineno))
        elif isinstance(node, (ast.FunctionDef, ast.ClassDef)):
            found.append((node.name, node.lineno))
        elif isinstance(node, ast.alias):
            found.append((node.asname or node.name, node.lineno))
        elif isinstance(node, ast.ExceptHandler) and node.name:
            found.append((node.name, node.lineno))
    return found


def module_names(tree):
    """Return the names that are bound at module level, a name as often as it is."""
    names = []
    for node in tree.body:
        if isinstance(node, ast.ImportFrom):
            names += [alias.asname or alias.name for alias in node.names]
        elif isinstance(node, ast.Assign):
            names += [target.id for target in node.targets if isinstance(target, ast.Name)]
        elif isinstance(node, (ast.FunctionDef, ast.ClassDef)):
            names.append(node.name)
    return names


def l2_imports(name, tree):
    ahead = True
    for node in tree.body:
        if isinstance(node, ast.ImportFrom):
            if not ahead:
                yield node.lineno, "import below other statements"
        elif not (isinstance(node, ast.Expr) and isinstance(node.value, ast.Constant)):
            ahead = False
    for node in ast.walk(tree):
        if isinstance(node, ast.Import):
            yield node.lineno, "a module is imported as a name"
        if isinstance(node, ast.ImportFrom):
            names = {alias.name for alias in node.names}
            if node.level or node.parent is not tree or "*" in names:
                yield node.lineno, "wrong form of import"
            elif node.module in LIBRARY:
                if not names <= LIBRARY[node.module] or any(alias.asname for alias in node.names):
                    yield node.lineno, "not of the library"
            elif not re.fullmatch(r"rowsback\.[a-z0-9_]+", node.module):
                yield node.lineno, "not of the package"


def l3_module_level(name, tree):
    plain = (ast.Constant, ast.List, ast.Tuple, ast.Dict, ast.Name, ast.BinOp, ast.UnaryOp, ast.operator, ast.unaryop,
             ast.expr_context)
    for index, node in enumerate(tree.body):
        if isinstance(node, ast.Expr) and index == 0 and isinstance(node.value, ast.Constant):
            continue
        if isinstance(node, (ast.ImportFrom, ast.FunctionDef, ast.ClassDef)):
            continue
        if not isinstance(node, ast.Assign) or len(node.targets) != 1 or not isinstance(node.targets[0], ast.Name):
            yield node.lineno, "no such statement at module level"
            continue
        inner = list(ast.walk(node.value))
        if not all(isinstance(part, plain) for part in inner):
            yield node.lineno, "no plain value at module level"
        if any(isinstance(part, (ast.List, ast.Dict)) for part in inner if part is not node.value):
            yield node.lineno, "a list or a dict within another value (L15)"


def l4_functions(name, tree):
    for node in ast.walk(tree):
        if isinstance(node, ast.FunctionDef):
            for mark in node.decorator_list:
                in_class = isinstance(node.parent, ast.ClassDef)
                if not in_class or getattr(mark, "id", "") not in ("property", "staticmethod", "classmethod"):
                    yield node.lineno, "a decorator"
            for value in node.args.defaults + [value for value in node.args.kw_defaults if value]:
                if not all(isinstance(part, (ast.Constant, ast.Tuple, ast.UnaryOp, ast.USub, ast.Load))
                           for part in ast.walk(value)):
                    yield node.lineno, "a default that is not plain"


def l5_classes(name, tree):
    for node in ast.walk(tree):
        if isinstance(node, ast.ClassDef):
            if node.parent is not tree or node.decorator_list or node.keywords:
                yield node.lineno, "no such class"
            for part in node.body:
                if isinstance(part, ast.FunctionDef) and part.name.startswith("__") and part.name not in DOUBLE:
                    yield part.lineno, "no such method"
            methods = {part.name: part for part in node.body if isinstance(part, ast.FunctionDef)}
            if "__getitem__" in methods and "__iter__" not in methods:
                yield node.lineno, "__getitem__ without __iter__"
            if "__iter__" in methods and not re.fullmatch(r"return iter\(self\.\w+\)", only_row(methods["__iter__"])):
                yield node.lineno, "wrong form of __iter__"
            if "__len__" in methods and not re.fullmatch(r"return len\(self\.\w+\)", only_row(methods["__len__"])):
                yield node.lineno, "wrong form of __len__"
            for method in methods.values():
                if is_quiet(method) and any(changes(part) for part in ast.walk(method)):
                    yield method.lineno, "an operator or a property changes something"
    for node in ast.walk(tree):
        if called_name(node) == "super" and not called_name(node.parent.parent):
            yield node.lineno, "wrong use of super"
        if isinstance(node, ast.Attribute) and called_name(node.value) == "super":
            if node.attr.startswith("__") and node.attr != "__init__":
                yield node.lineno, "super() calls a double-underscore method"


def only_row(method):
    """Return the text of the one statement of the method, "" if it has more."""
    return ast.unparse(method.body[0]) if len(method.body) == 1 else ""


def is_quiet(method):
    """Return whether the method is an operator or a property, which may change nothing."""
    marks = [getattr(mark, "id", "") for mark in method.decorator_list]
    return "property" in marks or method.name.startswith("__") and method.name not in ("__init__", "__call__")


def changes(node):
    """Return whether an attribute or an item is changed here."""
    stored = isinstance(node, (ast.Attribute, ast.Subscript)) and not isinstance(node.ctx, ast.Load)
    return stored or called_name(node) in CHANGING | {"add", "discard"} or isinstance(node, ast.AugAssign)


def l6_statements(name, tree):
    for node in ast.walk(tree):
        if isinstance(node, ast.stmt) and not isinstance(node, STATEMENTS):
            yield node.lineno, "no such statement"
        if isinstance(node, ast.Expr) and not isinstance(node.value, (ast.Call, ast.Yield, ast.YieldFrom)):
            text = isinstance(node.value, ast.Constant) and isinstance(node.value.value, str)
            if not text or node is not node.parent.body[0]:
                yield node.lineno, "a value alone"


def l7_expressions(name, tree):
    for node in ast.walk(tree):
        if isinstance(node, ast.Constant) and isinstance(node.value, (float, complex, type(...))):
            yield node.lineno, "no such constant"
        if isinstance(node, (ast.Div, ast.MatMult)):
            yield node.parent.lineno, "no such operator"
        if isinstance(node, ast.FormattedValue) and node.conversion == ord("a"):
            yield node.lineno, "no such conversion"
        if isinstance(node, ast.GeneratorExp) and called_name(node.parent) not in GENERATOR_HOLDERS:
            yield node.lineno, "a generator expression: put a list there"
        if isinstance(node, ast.Starred) and isinstance(node.parent, ast.Call):
            if not isinstance(node.value, (ast.Name, ast.Attribute, ast.Constant, ast.List, ast.Tuple, ast.Dict)):
                yield node.lineno, "what stands behind a star"
        if isinstance(node, (ast.ListComp, ast.DictComp, ast.SetComp)):
            above = node
            while not isinstance(above, (ast.FunctionDef, ast.Module)):
                above = above.parent
            if isinstance(above, ast.Module):
                yield node.lineno, "a comprehension at module level"


def l8_builtins(name, tree):
    for node in ast.walk(tree):
        if isinstance(node, ast.Name) and isinstance(node.ctx, ast.Load):
            if hasattr(builtins, node.id) and node.id not in BUILTINS:
                yield node.lineno, f"the builtin {node.id}"
            if node.id.startswith("__"):
                yield node.lineno, f"the name {node.id}"


def l10_functions(name, tree):
    for node in ast.walk(tree):
        if isinstance(node, ast.FunctionDef) and node.end_lineno - node.lineno >= 40:
            yield node.lineno, "a function of more than 40 lines"


def l12_names(name, tree):
    for bound, line in bound_names(tree):
        good = re.fullmatch(r"_?[A-Za-z][A-Za-z0-9_]*|_", bound) or bound in DOUBLE
        if not good or bound.startswith(NO_STARTS):
            yield line, f"the name {bound}"
    for node in ast.walk(tree):
        if isinstance(node, ast.Name) and node.id == "_" and isinstance(node.ctx, ast.Load):
            yield node.lineno, "_ is read"


def l13_sets_and_lambdas(name, tree):
    lines = [node.lineno for node in ast.walk(tree) if isinstance(node, ast.Lambda)]
    for line in lines:
        if lines.count(line) > 1:
            yield line, "two lambdas on one line"
    for node in ast.walk(tree):
        if isinstance(node, ast.Set) and len(node.elts) > 2:
            yield node.lineno, "a set of three and more"


def l15_bindings(name, tree):
    names = module_names(tree)
    for bound in names:
        if names.count(bound) > 1:
            yield 1, f"{bound} is bound more than once"
    taken = set()
    for node in tree.body:
        if isinstance(node, ast.ImportFrom):
            taken |= {alias.asname or alias.name for alias in node.names}
        if isinstance(node, ast.ClassDef):
            taken.add(node.name)
    for node in ast.walk(tree):
        bound = None
        if isinstance(node, ast.arg):
            bound = node.arg
        elif isinstance(node, ast.Name) and not isinstance(node.ctx, ast.Load):
            bound = node.id
        elif isinstance(node, ast.FunctionDef) and not isinstance(node.parent, (ast.Module, ast.ClassDef)):
            bound = node.name
        if bound in taken:
            yield node.lineno, f"{bound} is the name of a class or an import"
    for bound, line in bound_names(tree):
        if hasattr(builtins, bound) and not bound.startswith("__"):
            yield line, f"{bound} is a builtin"


def l17_names(name, tree):
    for node in ast.walk(tree):
        for field in ("id", "arg", "attr", "name"):
            used = getattr(node, field, None)
            if isinstance(used, str) and (used in NEVER or re.match(r"(f|tb|co)_[a-z]+$", used)):
                yield getattr(node, "lineno", 0), f"the name {used}"
        if isinstance(node, ast.Constant) and isinstance(node.value, str):
            docstring = isinstance(node.parent, ast.Expr)
            words = set() if docstring else set(re.findall(r"\w+", node.value)) - {"type"}
            if words & NO_WORDS:
                yield node.lineno, "a word that is barred"
    for bound, line in bound_names(tree):
        if bound in NO_NAMES or bound in NO_WORDS:
            yield line, f"the name {bound}"


def l19_errors(name, tree):
    for node in ast.walk(tree):
        if isinstance(node, ast.ExceptHandler):
            caught = node.type.elts if isinstance(node.type, ast.Tuple) else [node.type]
            for one in caught:
                if getattr(one, "id", None) in (None, "Exception", "TypeError", "ArithmeticError", "RuntimeError",
                                                "OverflowError", "AttributeError", "NotImplementedError"):
                    yield node.lineno, "no such error is caught"
        if isinstance(node, ast.Raise) and node.exc is not None:
            if not isinstance(node.exc, ast.Call) or not isinstance(node.exc.func, ast.Name):
                yield node.lineno, "the error is not made on the spot"


def l20_is(name, tree):
    for node in ast.walk(tree):
        if isinstance(node, ast.Compare):
            for operator, right in zip(node.ops, node.comparators):
                if isinstance(operator, (ast.Is, ast.IsNot)):
                    if getattr(right, "value", 1) is not None and type(getattr(right, "value", 1)) is not bool:
                        yield node.lineno, "is"


def l21_annotations(name, tree):
    for node in ast.walk(tree):
        if isinstance(node, ast.AnnAssign) or getattr(node, "annotation", None) or getattr(node, "returns", None):
            yield node.lineno, "an annotation"


def l22_builtin_calls(name, tree):
    known = {"sorted": {"key", "reverse"}, "min": {"key", "default"}, "max": {"key", "default"}, "sum": {"start"},
             "enumerate": {"start"}, "zip": {"strict"}}
    for node in ast.walk(tree):
        if isinstance(node, ast.Call) and isinstance(node.func, ast.Name) and node.func.id in BUILTINS:
            if not {word.arg for word in node.keywords} <= known.get(node.func.id, set()):
                yield node.lineno, "a keyword of a builtin"
        if isinstance(node, ast.Call) and isinstance(node.func, ast.Attribute) and node.keywords:
            if node.func.attr in METHODS:
                yield node.lineno, "a keyword of a method"
        if isinstance(node, ast.Name) and node.id in BUILTINS and isinstance(node.ctx, ast.Load):
            parent = node.parent
            known_place = isinstance(parent, (ast.Call, ast.ClassDef, ast.ExceptHandler, ast.Tuple, ast.keyword))
            if not known_place and not hasattr(parent, "decorator_list"):
                yield node.lineno, f"{node.id} is used as a value"


def l23_at_once(name, tree):
    views = {"items", "keys"}
    for node in ast.walk(tree):
        plain = isinstance(node, ast.Call) and isinstance(node.func, ast.Name)
        view = isinstance(node, ast.Call) and isinstance(node.func, ast.Attribute) and node.func.attr in views
        if not view and not (plain and node.func.id in ("zip", "enumerate", "reversed", "range", "map")):
            continue
        above = node.parent
        good = isinstance(above, (ast.For, ast.comprehension)) and above.iter is node
        good = good or called_name(above) in AT_ONCE and above.args[0] is node
        if plain and node.func.id == "range":
            good = good or called_name(above) in ("len", "reversed") or isinstance(above, ast.Compare)
        if not good:
            yield node.lineno, "not iterated at once"
    for node in ast.walk(tree):
        if isinstance(node, ast.For):
            read = {part.id for part in ast.walk(node.iter) if isinstance(part, ast.Name)} - BUILTINS
            for part in [inner for row in node.body for inner in ast.walk(row)]:
                changed = isinstance(part, (ast.Subscript, ast.Attribute)) and not isinstance(part.ctx, ast.Load)
                changed = changed or called_name(part.parent) in CHANGING
                holder = getattr(part, "value", None)
                direct = isinstance(node.iter, ast.Name) or called_name(node.iter) in ("zip", "enumerate", "items")
                if changed and direct and isinstance(holder, ast.Name) and holder.id in read:
                    yield part.lineno, "what is iterated over is changed"


def l23_other_names(name, tree):
    """Find where what a loop walks is changed by another name that stands for the same thing at some time."""
    for function in ast.walk(tree):
        if not isinstance(function, ast.FunctionDef):
            continue
        same = {}
        for node in ast.walk(function):
            if isinstance(node, ast.Assign):
                for target in node.targets:
                    if isinstance(target, ast.Name):
                        for other in names_stood_for(node.value):
                            both = same.get(target.id, {target.id}) | same.get(other, {other})
                            same |= {one: both for one in both}
        for node in ast.walk(function):
            if isinstance(node, ast.For):
                walked = set(names_stood_for(node.iter))
                for call in [part for part in ast.walk(node.iter) if isinstance(part, ast.Call)]:
                    holders = list(call.args) + [getattr(call.func, "value", None)]
                    walked |= {one for holder in holders for one in names_stood_for(holder)}
                walked = {one for near in walked for one in same.get(near, {near})}
                for part in [inner for row in node.body for inner in ast.walk(row)]:
                    if changed_name(part) in walked:
                        yield part.lineno, "what is iterated over is changed by another name"


def names_stood_for(node):
    """Return the names of what the value is itself: of a name, or of a choice of some."""
    if isinstance(node, ast.Name):
        return [node.id]
    if isinstance(node, ast.IfExp):
        return names_stood_for(node.body) + names_stood_for(node.orelse)
    if isinstance(node, ast.BoolOp):
        return [one for part in node.values for one in names_stood_for(part)]
    return []


def changed_name(node):
    """Return the name of what is changed here, None if nothing is."""
    if isinstance(node, ast.AugAssign):
        return getattr(node.target, "id", None)
    stored = isinstance(node, (ast.Subscript, ast.Attribute)) and not isinstance(node.ctx, ast.Load)
    if stored or isinstance(node, ast.Attribute) and called_name(node.parent) in CHANGING:
        return getattr(node.value, "id", None)
    return None


def l24_sets(name, tree):
    for node in ast.walk(tree):
        if isinstance(node, (ast.Set, ast.SetComp)) or called_name(node) in ("set", "frozenset"):
            above = node.parent
            direct = called_name(above) in ("sorted", "len") and not above.keywords
            if not isinstance(above, ast.Compare) and not direct:
                yield node.lineno, "a set"


def l25_methods(name, tree):
    own = {node.name for node in ast.walk(tree) if isinstance(node, ast.FunctionDef)}
    for node in ast.walk(tree):
        if isinstance(node, ast.Call) and isinstance(node.func, ast.Attribute):
            if node.func.attr not in METHODS | OWN_METHODS | own:
                yield node.lineno, f"the method {node.func.attr}"
        elif isinstance(node, ast.Attribute) and isinstance(node.ctx, ast.Load) and node.attr in METHODS:
            if getattr(node.parent, "func", None) is not node and node.attr not in ATTRIBUTES:
                yield node.lineno, "a method that is not called"
        elif isinstance(node, ast.Attribute) and node.attr in METHODS - ATTRIBUTES:
            if getattr(node.parent, "func", None) is not node:
                yield node.lineno, "no such attribute"


def l27_strings(name, tree):
    for node in ast.walk(tree):
        if isinstance(node, ast.BinOp) and isinstance(node.op, ast.Pow):
            if not isinstance(node.right, ast.Constant) or node.right.value not in range(65):
                yield node.lineno, "a power that is not written out"
        if isinstance(node, ast.Constant) and isinstance(node.value, str):
            if "%" in node.value:
                yield node.lineno, "the character that is barred in strings"
            if node.value.endswith(("._", ".__")) or node.value.startswith("__") and node.value.endswith("__"):
                yield node.lineno, "underscores in a string"
        if isinstance(node, ast.Constant) and isinstance(node.value, int) and node.value > 10 ** 900:
            yield node.lineno, "a number of too many digits"
        if isinstance(node, ast.JoinedStr) and node.end_lineno != node.lineno:
            yield node.lineno, "an f-string over two lines"


def l28_double_underscores(name, tree):
    for node in ast.walk(tree):
        if isinstance(node, ast.FunctionDef) and node.name == "__init__":
            if any(isinstance(part, ast.Return) for part in ast.walk(node)):
                yield node.lineno, "__init__ returns"
        if isinstance(node, ast.FunctionDef) and node.name in DOUBLE and not isinstance(node.parent, ast.ClassDef):
            yield node.lineno, "not in a class"


def own_methods():
    """Return the names of the methods of all classes of the package."""
    trees = [ast.parse(path.read_text("utf-8")) for path in FILES]
    classes = [node for tree in trees for node in tree.body if isinstance(node, ast.ClassDef)]
    return {part.name for node in classes for part in node.body if isinstance(part, ast.FunctionDef)}


OWN_METHODS = own_methods()
CHECKS = [check for name, check in sorted(globals().items()) if re.match(r"l\d+_", name)]

# For each check what it must find.
WRONG = {
    l2_imports: ["import math", "from os import path", "from itertools import product", "from math import sin", "from rowsback.rows import *",
                 "from .rows import told", "x = 1\nfrom rowsback.rows import told"],
    l3_module_level: ["x = len('a')", "x = y = 1", "x, y = 1, 2", "if 1:\n    x = 1", "X = [[1]]", "print(1)"],
    l4_functions: ["@f\ndef g():\n    pass", "def g(a=len('a')):\n    pass", "def g(a=[]):\n    pass"],
    l5_classes: ["class A:\n    def __hash__(self):\n        return 1", "def f():\n    class A:\n        pass",
                 "class A:\n    def __getitem__(self, at):\n        return 1",
                 "class A:\n    def __iter__(self):\n        x = 1\n        return iter(self.x)",
                 "class A:\n    def __len__(self):\n        return self.x",
                 "class A:\n    def __eq__(self, other):\n        self.x = 1\n        return True",
                 "class A:\n    @property\n    def x(self):\n        self.y.append(1)\n        return 1",
                 "class A:\n    def x(self):\n        return super().__str__()",
                 "class A:\n    def x(self):\n        return super()"],
    l6_statements: ["def f():\n    global x", "async def f():\n    pass", "def f():\n    1 + 1"],
    l7_expressions: ["x = 1.5", "def f(a):\n    return a / 2", "def f(a):\n    return sum(b for b in a)",
                     "def f(a):\n    return zip(*[b for b in a])", "X = [a for a in (1, 2)]"],
    l8_builtins: ["def f():\n    return pow(2, 3)", "def f():\n    print(1)", "def f():\n    return __name__"],
    l10_functions: ["def f():\n" + "    x = 1\n" * 40],
    l12_names: ["__x = 1", "def f(_wall_e):\n    pass", "def f():\n    _ = 1\n    return _"],
    l13_sets_and_lambdas: ["def f(a):\n    return a in {1, 2, 3}", "def f():\n    return lambda x: 1, lambda x: 2"],
    l15_bindings: ["x = 1\nx = 2", "from rowsback.rows import told\ndef f(told):\n    pass",
                   "def f():\n    sum = 1", "def hash():\n    pass"],
    l17_names: ["def f(elements):\n    pass", "def f(a):\n    return a.register", "dir = 1", "X = 'an Enum'"],
    l19_errors: ["def f():\n    try:\n        pass\n    except Exception:\n        pass", "def f(a):\n    raise a",
                 "def f():\n    try:\n        pass\n    except:\n        pass"],
    l20_is: ["def f(a):\n    return a is 1", "def f(a, b):\n    return a is not b"],
    l21_annotations: ["def f(a: int):\n    pass", "def f(a) -> int:\n    pass", "x: int = 1"],
    l22_builtin_calls: ["def f(a):\n    return len(obj=a)", "def f(a):\n    a.split(sep=',')", "def f():\n    x = len"],
    l23_at_once: ["def f(a):\n    x = zip(a, a)", "def f(a):\n    return a.items()",
                  "def f(a):\n    for b in a:\n        a.append(b)",
                  "def f(a):\n    for k, b in enumerate(a):\n        a[k] = 1"],
    l23_other_names: ["def f(a):\n    b = []\n    while a:\n        for c in a:\n            b.append(c)\n        a = b",
                      "def f(a, d):\n    b = d if d else []\n    for c in d.items():\n        b[c] = 1"],
    l24_sets: ["def f(a):\n    x = set(a)", "def f(a):\n    return {1, a}",
               "def f(a):\n    return sorted(set(a), key=len)"],
    l25_methods: ["def f(a):\n    return a.format(1)", "def f(a):\n    x = a.append", "def f(a):\n    a.items = 1"],
    l27_strings: ["def f(a):\n    return 2 ** a", "x = 'a %'", "x = '__odd__'", "x = 'a._'"],
    l28_double_underscores: ["class A:\n    def __init__(self):\n        return None", "def __len__(a):\n    return 1"],
}


class LanguageTest(unittest.TestCase):

    def test_all_checks_find_what_is_wrong(self):
        self.assertEqual(set(WRONG), set(CHECKS))
        for check, texts in WRONG.items():
            for text in texts:
                self.assertTrue(list(check("some.py", tree_of(text))), (check.__name__, text))

    def test_the_package_keeps_the_rules(self):
        for path in FILES:
            for check in CHECKS:
                found = list(check(path.name, tree_of(path.read_text("utf-8"))))
                self.assertEqual(found, [], (path.name, check.__name__))

    def test_files(self):
        self.assertLessEqual(len(FILES), 100)
        names = [path.name for path in PACKAGE.iterdir() if path.name != "__pycache__"]
        self.assertEqual(sorted(names), [path.name for path in FILES])
        self.assertIn("__init__.py", names)
        for name in names:
            self.assertRegex(name, r"^[a-z0-9_]+\.py$")
            bare = name[:-3]
            self.assertNotIn(bare, NO_WORDS | NEVER | {"test", "tests", "testing", "site", "conftest"})
            self.assertFalse(bare in dir(builtins) and bare != "__init__" or bare.startswith(("test_", "law_")), bare)

    def test_lines(self):
        for path in FILES:
            text = path.read_text("utf-8")
            self.assertRegex(text, r"\A[ -~\n]*\n\Z", path.name)
            lines = text.split("\n")
            self.assertLessEqual(len(lines), 400, path.name)
            self.assertLessEqual(max(len(line) for line in lines), 120, path.name)
            self.assertNotIn("_wall", text)

    def test_escapes(self):
        for path in FILES:
            for token in tokenize.generate_tokens(io.StringIO(path.read_text("utf-8")).readline):
                if token.type == tokenize.STRING:
                    self.assertNotRegex(token.string, r"\\[^nt\\'\"]", (path.name, token.start))

    def test_names_are_imported_from_the_very_file(self):
        for path in FILES:
            for node in tree_of(path.read_text("utf-8")).body:
                if isinstance(node, ast.ImportFrom) and node.module not in LIBRARY:
                    other = tree_of((PACKAGE.parent / (node.module.replace(".", "/") + ".py")).read_text("utf-8"))
                    own = [part for part in other.body if not isinstance(part, ast.ImportFrom)]
                    names = module_names(ast.Module(body=own, type_ignores=[]))
                    for alias in node.names:
                        self.assertIn(alias.name, names, path.name)

    def test_no_two_files_import_from_each_other(self):
        reached = {}
        for path in FILES:
            nodes = [node for node in tree_of(path.read_text("utf-8")).body if isinstance(node, ast.ImportFrom)]
            reached[path.stem] = {node.module.split(".")[-1] for node in nodes if node.module not in LIBRARY}
        for _ in FILES:
            for others in reached.values():
                others |= {far for near in list(others) for far in reached[near]}
        for name, others in reached.items():
            self.assertNotIn(name, others)

    def test_imports_are_used(self):
        for path in FILES:
            tree = tree_of(path.read_text("utf-8"))
            used = {node.id for node in ast.walk(tree) if isinstance(node, ast.Name)}
            for node in tree.body:
                if isinstance(node, ast.ImportFrom):
                    for alias in node.names:
                        self.assertIn(alias.name, used, path.name)


if __name__ == "__main__":
    unittest.main()
