"""A part of the rules of LANGUAGE.md, those that are easy to see: faults lists the ones that a module breaks."""

import ast
import builtins
import re

PACKAGE = "dotpress"

OWN_NAMES = set("""
    len range enumerate zip min max sum abs sorted reversed int str bool list tuple dict set frozenset isinstance
    ord repr any all divmod Exception ValueError TypeError KeyError IndexError LookupError ZeroDivisionError
    ArithmeticError OverflowError RuntimeError NotImplementedError AttributeError StopIteration
""".split())

OWN_METHODS = set("""
    append clear copy count endswith extend find get index insert isalnum isalpha isdigit islower isspace isupper
    items join keys ljust lower lstrip partition pop remove replace reverse rfind rjust rpartition rsplit rstrip
    setdefault split splitlines startswith strip update upper values zfill bit_length
""".split())

SPECIAL_METHODS = {"__init__", "__eq__", "__repr__", "__str__", "__len__"}

BANNED_WORDS = set("""
    type typing typing_extensions enum Enum IntEnum StrEnum Flag IntFlag Generic Protocol ABC ABCMeta namedtuple
    NamedTuple TypedDict TYPE_CHECKING abstractmethod
""".split())

BANNED_PARTS = ("dataclass", "overload", "contextmanager")

STATEMENTS = (
    ast.Assign, ast.AugAssign, ast.If, ast.While, ast.For, ast.Return, ast.Break, ast.Continue, ast.Pass, ast.Raise,
    ast.Try, ast.Expr, ast.FunctionDef, ast.ClassDef, ast.ImportFrom,
)

EXPRESSIONS = (
    ast.Constant, ast.List, ast.Tuple, ast.Dict, ast.Set, ast.BinOp, ast.UnaryOp, ast.BoolOp, ast.Compare, ast.IfExp,
    ast.Call, ast.Attribute, ast.Subscript, ast.Slice, ast.ListComp, ast.JoinedStr, ast.FormattedValue, ast.Lambda,
    ast.Name,
)

WALKED_ONCE = {"zip", "enumerate", "reversed", "range", ".items", ".keys", ".values"}

WALKERS = {"list", "tuple", "dict", "sorted", "sum", "any", "all", "enumerate", "zip"}

PLAIN_NAME = re.compile(r"[A-Za-z][A-Za-z0-9_]*\Z")


# The methods are those of all the package's classes, as a module may call the methods of another one's.
def faults(text, methods):
    tree = ast.parse(text)
    found = text_faults(text) + top_faults(tree) + walked_faults(tree) + hiding_faults(tree)
    own = bound_names(tree) | {"." + name for name in methods}
    for node in ast.walk(tree):
        found.extend(node_faults(node, own))
    return sorted(set(found))


def methods_of(text):
    classes = [node for node in ast.walk(ast.parse(text)) if isinstance(node, ast.ClassDef)]
    return {part.name for node in classes for part in node.body if isinstance(part, ast.FunctionDef)}


# The rules that are seen only by all modules together; texts are the modules' texts by their names.
def package_faults(texts):
    found = []
    methods = set().union(*[methods_of(text) for text in texts.values()])
    values = set().union(*[values_of(text) for text in texts.values()])
    if methods & values:
        found.append("L18")
    drawn = {name: drawn_by(text) for name, text in texts.items()}
    tops = {name: defined_at_top(text) for name, text in texts.items()}
    for name in texts:
        if any(name_drawn not in tops.get(other, ()) for other, name_drawn in drawn[name]):
            found.append("L16")
        if name in reached(name, drawn):
            found.append("L16")
    return sorted(set(found))


def values_of(text):
    nodes = ast.walk(ast.parse(text))
    return {node.attr for node in nodes if isinstance(node, ast.Attribute) and isinstance(node.ctx, ast.Store)}


def drawn_by(text):
    nodes = [node for node in ast.parse(text).body if isinstance(node, ast.ImportFrom)]
    return [(node.module.removeprefix(PACKAGE + "."), alias.name) for node in nodes for alias in node.names]


def defined_at_top(text):
    nodes = [node for node in ast.parse(text).body if not isinstance(node, ast.ImportFrom)]
    return {name for node in nodes for name in names_bound_by(node)}


def reached(name, drawn):
    found = set()
    waiting = [name]
    while waiting:
        for other, drawn_name in drawn.get(waiting.pop(), []):
            if other not in found:
                found.add(other)
                waiting.append(other)
    return found


def text_faults(text):
    rows = text.split("\n")
    found = []
    if len(rows) > 401 or any(len(row) > 120 for row in rows):
        found.append("L10")
    if any(sign != "\n" and not " " <= sign <= "~" for sign in text):
        found.append("L14")
    words = set(re.findall(r"\w+", text))
    if words & BANNED_WORDS or any(part in text for part in BANNED_PARTS):
        found.append("L17")
    return found


def top_faults(tree):
    found = []
    top = (ast.FunctionDef, ast.ClassDef, ast.Assign, ast.ImportFrom)
    for place, node in enumerate(tree.body):
        if not isinstance(node, top) and not (place == 0 and is_docstring(node)):
            found.append("L3")
    bound = [name for node in tree.body for name in names_bound_by(node)]
    if len(bound) != len(set(bound)):
        found.append("L15")
    return found


# No parameter and no local is called like a class or an import of its file.
def hiding_faults(tree):
    tops = [node for node in tree.body if isinstance(node, (ast.ClassDef, ast.ImportFrom))]
    hidden = {name for node in tops for name in names_bound_by(node)}
    defs = [node for node in tree.body if isinstance(node, (ast.FunctionDef, ast.ClassDef))]
    within = [part for node in defs for part in ast.walk(node)]
    given = {part.arg for part in within if isinstance(part, ast.arg)}
    given.update([part.id for part in within if isinstance(part, ast.Name) and isinstance(part.ctx, ast.Store)])
    return ["L15"] if hidden & given else []


def is_docstring(node):
    return isinstance(node, ast.Expr) and isinstance(node.value, ast.Constant) and isinstance(node.value.value, str)


def names_bound_by(node):
    if isinstance(node, (ast.FunctionDef, ast.ClassDef)):
        return [node.name]
    if isinstance(node, ast.ImportFrom):
        return [alias.name for alias in node.names]
    if isinstance(node, ast.Assign):
        return [part.id for target in node.targets for part in ast.walk(target) if isinstance(part, ast.Name)]
    return []


def bound_names(tree):
    own = set()
    for node in ast.walk(tree):
        own.update(names_bound_by(node))
        if isinstance(node, ast.arg):
            own.add(node.arg)
        elif isinstance(node, ast.Name) and isinstance(node.ctx, ast.Store):
            own.add(node.id)
        elif isinstance(node, ast.ExceptHandler) and node.name:
            own.add(node.name)
    return own


# What is walked once alone is to stand where it is walked on the spot, not kept or handed on.
def walked_faults(tree):
    right = [part for node in ast.walk(tree) for part in walked_parts(node)]
    made = [node for node in ast.walk(tree) if isinstance(node, ast.Call) and called_name(node) in WALKED_ONCE]
    return ["L23"] if any(node not in right for node in made) else []


def called_name(node):
    return getattr(node.func, "id", None) or "." + getattr(node.func, "attr", "")


def walked_parts(node):
    if isinstance(node, (ast.For, ast.comprehension)):
        return [node.iter]
    if isinstance(node, ast.Call):
        name = called_name(node)
        alone = len(node.args) == 1 and not node.keywords
        if name in WALKERS or (name in ("min", "max", ".join") and alone):
            return node.args[:1]
    return []


def node_faults(node, own):
    found = []
    if isinstance(node, ast.stmt) and not isinstance(node, STATEMENTS):
        found.append("L6")
    if isinstance(node, ast.expr) and not isinstance(node, EXPRESSIONS):
        found.append("L7")
    for kind, check in CHECKS:
        if isinstance(node, kind):
            found.extend(check(node, own))
    return found


def plain_import_faults(node, own):
    return ["L2"]


def import_faults(node, own):
    plain = all(alias.asname is None and alias.name != "*" for alias in node.names)
    return [] if plain and node.level == 0 and node.module.startswith(PACKAGE + ".") else ["L2"]


def def_faults(node, own):
    found = name_faults(node.name) if node.name not in SPECIAL_METHODS else []
    wanted = node.args
    if wanted.vararg or wanted.kwarg or wanted.kwonlyargs or wanted.posonlyargs or node.decorator_list:
        found.append("L4")
    if node.end_lineno - node.lineno + 1 > 40:
        found.append("L10")
    return found


def class_faults(node, own):
    found = name_faults(node.name)
    if len(node.bases) > 1 or node.keywords or node.decorator_list:
        found.append("L5")
    if not all(isinstance(part, (ast.FunctionDef, ast.Pass)) for part in node.body):
        found.append("L5")
    return found


def name_faults(name):
    found = [] if PLAIN_NAME.match(name) else ["L12"]
    if name in dir(builtins):
        found.append("L15")
    return found


def bare_value_faults(node, own):
    return [] if isinstance(node.value, ast.Call) or is_docstring(node) else ["L6"]


def assign_faults(node, own):
    return [] if len(node.targets) == 1 else ["L6"]


def loop_faults(node, own):
    return ["L6"] if node.orelse else []


def try_faults(node, own):
    return ["L6"] if node.finalbody or any(handler.type is None for handler in node.handlers) else []


def use_faults(node, own):
    if isinstance(node.ctx, ast.Store):
        return name_faults(node.id)
    return [] if node.id in own or node.id in OWN_NAMES else ["L8"]


def argument_faults(node, own):
    return name_faults(node.arg)


def call_faults(node, own):
    found = ["L7"] if any(keyword.arg is None for keyword in node.keywords) else []
    if isinstance(node.func, ast.Attribute):
        name = node.func.attr
        if name not in OWN_METHODS and "." + name not in own:
            found.append("L25")
    return found


def attribute_faults(node, own):
    return [] if PLAIN_NAME.match(node.attr) or node.attr == "__init__" else ["L12"]


def operator_faults(node, own):
    if isinstance(node.op, (ast.Div, ast.MatMult)):
        return ["L7"]
    if isinstance(node.op, ast.Pow):
        right = node.right if isinstance(node, ast.BinOp) else node.value
        written = isinstance(right, ast.Constant) and right.value in range(65)
        return [] if written else ["L27"]
    return []


def compare_faults(node, own):
    found = []
    for operator, right in zip(node.ops, node.comparators):
        if isinstance(operator, (ast.Is, ast.IsNot)):
            if not (isinstance(right, ast.Constant) and right.value in (None, True, False)):
                found.append("L20")
    return found


def value_faults(node, own):
    if isinstance(node.value, (float, complex, bytes)) or node.value is ...:
        return ["L7"]
    return ["L27"] if isinstance(node.value, str) and "%" in node.value else []


def braces_faults(node, own):
    plain = isinstance(node.value, ast.Name) and node.format_spec is None and node.conversion in (-1, ord("r"))
    return [] if plain else ["L7"]


def comprehension_faults(node, own):
    return [] if len(node.generators) == 1 and len(node.generators[0].ifs) < 2 else ["L7"]


CHECKS = (
    (ast.Import, plain_import_faults),
    (ast.ImportFrom, import_faults),
    (ast.FunctionDef, def_faults),
    (ast.ClassDef, class_faults),
    (ast.Expr, bare_value_faults),
    (ast.Assign, assign_faults),
    ((ast.For, ast.While), loop_faults),
    (ast.Try, try_faults),
    (ast.Name, use_faults),
    (ast.arg, argument_faults),
    (ast.Call, call_faults),
    (ast.Attribute, attribute_faults),
    ((ast.BinOp, ast.AugAssign), operator_faults),
    (ast.Compare, compare_faults),
    (ast.Constant, value_faults),
    (ast.ListComp, comprehension_faults),
    (ast.FormattedValue, braces_faults),
)
