"""Looks at a file of the package by the rules of LANGUAGE.md and tells what is outside them.

Each finding is a text with the rule's number and the line. A finding is sure to be one; that there's
none doesn't show that every rule is kept.
"""

import ast
import builtins
import re

STATEMENTS = (
    ast.Assign, ast.AugAssign, ast.If, ast.While, ast.For, ast.Return, ast.Break, ast.Continue, ast.Pass, ast.Raise,
    ast.Try, ast.Expr, ast.FunctionDef, ast.ClassDef, ast.ImportFrom,
)
EXPRESSIONS = (
    ast.Constant, ast.List, ast.Tuple, ast.Dict, ast.Name, ast.Attribute, ast.Subscript, ast.Slice, ast.Call,
    ast.keyword, ast.BinOp, ast.UnaryOp, ast.BoolOp, ast.Compare, ast.IfExp, ast.ListComp, ast.comprehension,
    ast.Lambda, ast.JoinedStr, ast.FormattedValue,
)
OTHERS = (
    ast.Module, ast.arguments, ast.arg, ast.alias, ast.ExceptHandler, ast.expr_context, ast.boolop, ast.unaryop,
    ast.operator, ast.cmpop,
)
OUT_OF_PLACE = (ast.Div, ast.MatMult)
OWN_NAMES = (
    "len range enumerate zip min max sum abs sorted reversed int str bool list tuple dict set frozenset isinstance ord"
    " repr any all divmod Exception ValueError TypeError KeyError IndexError LookupError ZeroDivisionError"
    " ArithmeticError OverflowError RuntimeError NotImplementedError AttributeError StopIteration"
).split()
METHODS = (
    "append clear copy count endswith extend find get index insert isalnum isalpha isdigit islower isspace isupper"
    " items join keys ljust lower lstrip partition pop remove replace reverse rfind rjust rpartition rsplit rstrip"
    " setdefault split splitlines startswith strip update upper values zfill bit_length"
).split()
WALKED_AT_ONCE = ("zip", "enumerate", "reversed", "range", "items", "keys", "values")
WALKERS = ("list", "tuple", "dict", "sorted", "sum", "any", "all", "enumerate", "zip", "min", "max", "join")
TWO_UNDERSCORES = ("__init__", "__eq__", "__repr__", "__str__", "__len__")
UNUSED_NAMES = (
    "register mro elements open input version_info with_traceback add_note attrgetter breakpoint builtins compile"
    " copyright credits delattr dir eval exec exit gc getattr globals hasattr help id importlib license locals"
    " methodcaller os quit setattr super vars sys format format_map chr print"
).split()
UNUSED_WORDS = re.compile(
    r"\b(type|typing|typing_extensions|enum|Enum|IntEnum|StrEnum|Flag|IntFlag|Generic|Protocol|ABC|ABCMeta|namedtuple"
    r"|NamedTuple|TypedDict|TYPE_CHECKING|abstractmethod)\b|dataclass|overload|contextmanager"
)
BUILT_IN = set(dir(builtins))
TAKEN_ATTRIBUTES = {name for kind in (str, int, list, dict, set, bytes, tuple) for name in dir(kind)}


def text_findings(source):
    found = []
    lines = source.split("\n")
    if len(lines) - 1 > 400:
        found.append("L10 a file of more than 400 lines")
    for number, line in enumerate(lines, start=1):
        if len(line) > 120:
            found.append(f"L10 line {number} is too long")
        if not all(" " <= sign <= "~" for sign in line):
            found.append(f"L14 line {number} has a sign that's outside")
        if UNUSED_WORDS.search(line):
            found.append(f"L17 line {number} has a word that's not used")
    return found


def node_findings(node):
    """What can be said of one node by itself."""
    line = getattr(node, "lineno", 0)
    found = []
    if not isinstance(node, STATEMENTS + EXPRESSIONS + OTHERS) or isinstance(node, OUT_OF_PLACE):
        found.append(f"L6 L7 line {line}: {type(node).__name__}")
    if isinstance(node, ast.Constant) and not isinstance(node.value, (int, str, type(None))):
        found.append(f"L7 line {line}: a value of another kind")
    if isinstance(node, ast.Constant) and isinstance(node.value, str) and "%" in node.value:
        found.append(f"L27 line {line}: the sign of hundredths in a text")
    if isinstance(node, ast.Assign) and (len(node.targets) != 1 or isinstance(node.targets[0], (ast.Tuple, ast.List))):
        found.append(f"L6 line {line}: more than one target")
    if isinstance(node, (ast.For, ast.While)) and node.orelse:
        found.append(f"L6 line {line}: else behind a loop")
    if isinstance(node, ast.Try) and node.finalbody:
        found.append(f"L6 line {line}: finally")
    if isinstance(node, ast.Expr) and not isinstance(node.value, (ast.Call, ast.Constant)):
        found.append(f"L6 line {line}: a value by itself")
    if isinstance(node, ast.ListComp) and (len(node.generators) != 1 or len(node.generators[0].ifs) > 1):
        found.append(f"L7 line {line}: more than one for or if")
    if isinstance(node, ast.BinOp) and isinstance(node.op, ast.Pow) and not isinstance(node.right, ast.Constant):
        found.append(f"L27 line {line}: an exponent that's not written")
    return found + handler_findings(node, line) + name_findings(node, line)


def handler_findings(node, line):
    found = []
    if isinstance(node, ast.ExceptHandler):
        if not isinstance(node.type, ast.Name) or node.type.id in BUILT_IN - {"KeyError", "ZeroDivisionError"}:
            found.append(f"L19 line {line}: an error class that's not the program's own")
    if isinstance(node, ast.Raise) and not isinstance(node.exc, ast.Call):
        found.append(f"L19 line {line}: an error that's not made on the spot")
    if isinstance(node, ast.Compare):
        for op, right in zip(node.ops, node.comparators):
            plain = isinstance(right, ast.Constant) and right.value in (None, True, False)
            if isinstance(op, (ast.Is, ast.IsNot)) and not plain:
                found.append(f"L20 line {line}: is beside another value")
    return found


def name_findings(node, line):
    found = []
    bound = []
    if isinstance(node, ast.Name):
        if isinstance(node.ctx, ast.Load):
            if node.id in BUILT_IN and node.id not in OWN_NAMES:
                found.append(f"L8 line {line}: {node.id}")
        else:
            bound.append(node.id)
    if isinstance(node, ast.arg):
        bound.append(node.arg)
        if node.annotation is not None:
            found.append(f"L21 line {line}: an annotation")
    if isinstance(node, ast.FunctionDef):
        found.extend(def_findings(node))
    if isinstance(node, ast.ClassDef):
        found.extend(class_findings(node))
    if isinstance(node, ast.Attribute) and node.attr in UNUSED_NAMES:
        found.append(f"L17 line {line}: {node.attr}")
    for name in bound:
        if name in BUILT_IN or name in UNUSED_NAMES or not re.fullmatch(r"[A-Za-z][A-Za-z0-9_]*", name):
            found.append(f"L12 L15 L17 line {line}: {name}")
    return found


def def_findings(node):
    found = []
    args = node.args
    if node.end_lineno - node.lineno + 1 > 40:
        found.append(f"L10 line {node.lineno}: a function of more than 40 lines")
    if node.decorator_list or args.vararg or args.kwarg or args.kwonlyargs or args.posonlyargs:
        found.append(f"L4 line {node.lineno}: a decorator or a star")
    if node.returns is not None:
        found.append(f"L21 line {node.lineno}: an annotation")
    if node.name not in TWO_UNDERSCORES and not re.fullmatch(r"[A-Za-z][A-Za-z0-9_]*", node.name):
        found.append(f"L12 line {node.lineno}: {node.name}")
    return found


def class_findings(node):
    found = []
    if len(node.bases) > 1 or node.keywords or node.decorator_list:
        found.append(f"L5 line {node.lineno}: more than one base, or a decorator")
    if not all(isinstance(part, ast.FunctionDef) for part in node.body):
        found.append(f"L5 line {node.lineno}: something else than methods")
    methods = [part.name for part in node.body if isinstance(part, ast.FunctionDef)]
    if len(methods) != len(set(methods)):
        found.append(f"L18 line {node.lineno}: a method that stands twice")
    return found


def is_plain(value):
    """A plain value of a file's top: numbers, texts and tuples of these."""
    if isinstance(value, ast.UnaryOp):
        return isinstance(value.op, ast.USub) and is_plain(value.operand)
    if isinstance(value, ast.Tuple):
        return all(is_plain(part) for part in value.elts)
    return isinstance(value, ast.Constant)


def top_findings(tree, package):
    found = []
    names = []
    for node in tree.body:
        if isinstance(node, (ast.FunctionDef, ast.ClassDef)):
            names.append(node.name)
        elif isinstance(node, ast.ImportFrom):
            names.extend(alias.asname or alias.name for alias in node.names)
            own = node.level == 0 and node.module.startswith(package + ".")
            if not own or any(alias.name == "*" for alias in node.names):
                found.append(f"L2 L16 line {node.lineno}: drawn from {node.module}")
        elif isinstance(node, ast.Assign):
            names.append(node.targets[0].id)
            if not is_plain(node.value):
                found.append(f"L3 L15 line {node.lineno}: a value that's not plain")
        elif not (node is tree.body[0] and isinstance(node, ast.Expr) and isinstance(node.value, ast.Constant)):
            found.append(f"L3 line {node.lineno}: something is done at the file's top")
    if len(names) != len(set(names)):
        found.append("L15 a name of the file's top is bound twice")
    inner = [node for part in tree.body for node in ast.walk(part) if node is not part]
    if any(isinstance(node, (ast.Import, ast.ImportFrom, ast.ClassDef)) for node in inner):
        found.append("L2 L15 an import or a class that's not at the file's top")
    return found


def walk_findings(tree):
    """What must be walked on the spot is kept (L23)."""
    walked = []
    for node in ast.walk(tree):
        if isinstance(node, (ast.For, ast.comprehension)):
            walked.append(node.iter)
        if isinstance(node, ast.Call) and called(node) in WALKERS:
            walked.extend(node.args)
    kept = [node for node in ast.walk(tree) if isinstance(node, ast.Call) and called(node) in WALKED_AT_ONCE]
    return [f"L23 line {node.lineno}: {called(node)}" for node in kept if not any(node is other for other in walked)]


def called(call):
    return call.func.attr if isinstance(call.func, ast.Attribute) else getattr(call.func, "id", "")


def attribute_findings(trees):
    """Methods and values of objects, over all files: L18, L25, L26."""
    classes = [node for tree in trees for node in ast.walk(tree) if isinstance(node, ast.ClassDef)]
    methods = {part.name for node in classes for part in node.body} - set(TWO_UNDERSCORES)
    nodes = [node for tree in trees for node in ast.walk(tree)]
    stored = {node.attr for node in nodes if isinstance(node, ast.Attribute) and isinstance(node.ctx, ast.Store)}
    used = {node.func.attr for node in nodes if isinstance(node, ast.Call) and isinstance(node.func, ast.Attribute)}
    found = [f"L18 {name} is a method and a value" for name in sorted(methods & stored)]
    found += [f"L25 {name} is called" for name in sorted(used - methods - set(METHODS))]
    found += [f"L26 {name} is a name of Python's own" for name in sorted((methods | stored) & TAKEN_ATTRIBUTES)]
    return found


def file_findings(source, package):
    tree = ast.parse(source)
    found = text_findings(source) + top_findings(tree, package) + walk_findings(tree)
    for node in ast.walk(tree):
        found.extend(node_findings(node))
    return found
