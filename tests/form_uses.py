"""Looks at how names, methods, classes and loops are used in the package's files, by the rules of LANGUAGE.md.

It goes beside form.py, which looks at what stands there at all. In places it's narrower than the rules.
"""

import ast
import builtins
import re
import types

from tests.form import METHODS, OWN_NAMES, called

CHANGES = ("append", "clear", "extend", "insert", "pop", "remove", "reverse", "setdefault", "update")
SEEN_THROUGH = ("enumerate", "zip", "reversed", "items", "keys", "values")
KEYWORDS = {
    "sorted": ("key", "reverse"), "min": ("key", "default"), "max": ("key", "default"), "sum": ("start",),
    "enumerate": ("start",), "zip": ("strict",),
}
AS_KEY = ("len", "int", "str", "abs", "sum", "min", "max", "tuple")
ERRORS = [name for name in OWN_NAMES if name[0].isupper()]
BASES = [name for name in ERRORS if name not in ("StopIteration", "AttributeError")]
FRAME_NAMES = {
    name for kind in (types.FrameType, types.CodeType, types.TracebackType) for name in dir(kind)
    if re.match(r"(f|co|tb)_", name)
}
OTHER_ESCAPE = re.compile(r"\\[^nt\\'\"]")


def parents_of(tree):
    return {part: node for node in ast.walk(tree) for part in ast.iter_child_nodes(node)}


def class_names(trees):
    return {node.name for tree in trees for node in tree.body if isinstance(node, ast.ClassDef)}


def own_methods(trees):
    classes = [node for tree in trees for node in tree.body if isinstance(node, ast.ClassDef)]
    return {part.name for node in classes for part in node.body if isinstance(part, ast.FunctionDef)}


def is_called(node, parent):
    return isinstance(parent, ast.Call) and parent.func is node


def is_key(parent):
    return isinstance(parent, ast.keyword) and parent.arg == "key"


def stands_by_isinstance(node, parents):
    parent = parents[node]
    if isinstance(parent, ast.Tuple):
        parent = parents[parent]
    return isinstance(parent, ast.Call) and called(parent) == "isinstance" and not is_called(node, parent)


def class_use_findings(node, parents, classes):
    """A class is called, is a base, or stands by isinstance, except or raise (L18)."""
    if not isinstance(node, ast.Name) or node.id not in classes:
        return []
    parent = parents[node]
    allowed = is_called(node, parent) or isinstance(parent, (ast.ClassDef, ast.ExceptHandler))
    if allowed or stands_by_isinstance(node, parents) or isinstance(parent, ast.Attribute):
        return []
    return [f"L18 line {node.lineno}: {node.id} is handed on"]


def own_name_findings(node, parents):
    """Python's own names are called, not kept (L22)."""
    if not isinstance(node, ast.Name) or node.id not in OWN_NAMES or node.id in ERRORS:
        return []
    parent = parents[node]
    if is_called(node, parent) or stands_by_isinstance(node, parents) or (is_key(parent) and node.id in AS_KEY):
        return []
    return [f"L22 line {node.lineno}: {node.id} is kept"]


def method_findings(node, parents, methods):
    """A method is called where it stands (L25)."""
    if not isinstance(node, ast.Attribute) or node.attr not in methods:
        return []
    if is_called(node, parents[node]) or is_key(parents[node]):
        return []
    return [f"L25 line {node.lineno}: {node.attr} is handed on"]


def keyword_findings(node):
    if not isinstance(node, ast.Call) or called(node) not in set(OWN_NAMES) | set(METHODS):
        return []
    words = [keyword.arg for keyword in node.keywords]
    return [f"L22 line {node.lineno}: {word}" for word in words if word not in KEYWORDS.get(called(node), ())]


def set_findings(node, parents):
    """A set isn't kept: it stands beside in, == or !=, or straight within sorted or len (L24)."""
    if not isinstance(node, ast.Call) or called(node) not in ("set", "frozenset"):
        return []
    parent = parents[node]
    while isinstance(parent, ast.BinOp):
        parent = parents[parent]
    if isinstance(parent, ast.Compare) or (isinstance(parent, ast.Call) and called(parent) in ("sorted", "len")):
        return []
    return [f"L24 line {node.lineno}: a set is kept"]


def walked_by(node):
    """What a loop walks, seen through enumerate and its like, each as a text."""
    if isinstance(node, ast.Call) and called(node) in SEEN_THROUGH:
        inner = node.args + ([node.func.value] if isinstance(node.func, ast.Attribute) else [])
        return [text for part in inner for text in walked_by(part)]
    return [ast.unparse(node)]


def changed_in(node):
    """What a statement or a call changes, as a text; None if it's nothing."""
    if isinstance(node, ast.Call) and isinstance(node.func, ast.Attribute) and node.func.attr in CHANGES:
        return ast.unparse(node.func.value)
    if isinstance(node, ast.Subscript) and isinstance(node.ctx, ast.Store):
        return ast.unparse(node.value)
    return ast.unparse(node.target) if isinstance(node, ast.AugAssign) else None


def loop_findings(node):
    """What a loop walks is not changed in it (L23)."""
    if not isinstance(node, ast.For):
        return []
    walked = walked_by(node.iter)
    parts = [part for row in node.body for part in ast.walk(row)]
    return [f"L23 line {part.lineno}: {changed_in(part)}" for part in parts if changed_in(part) in walked]


def def_use_findings(node):
    found = []
    if isinstance(node, (ast.FunctionDef, ast.Lambda)):
        if not all(isinstance(value, ast.Constant) for value in node.args.defaults):
            found.append(f"L4 line {node.lineno}: a default that's not plain")
    if isinstance(node, ast.FunctionDef) and node.name == "__init__":
        if any(isinstance(part, ast.Return) and part.value is not None for part in ast.walk(node)):
            found.append(f"L28 line {node.lineno}: __init__ gives something back")
    return found


def lambda_findings(tree):
    """No two lambdas with the same parameters on one line (L13)."""
    lambdas = [(node.lineno, ast.unparse(node.args)) for node in ast.walk(tree) if isinstance(node, ast.Lambda)]
    return [f"L13 line {line}: two lambdas alike" for line, args in set(lambdas) if lambdas.count((line, args)) > 1]


def base_findings(node, classes):
    if not isinstance(node, ast.ClassDef):
        return []
    wrong = [base for base in node.bases if getattr(base, "id", "") not in set(BASES) | classes]
    return [f"L5 L18 line {node.lineno}: a base from elsewhere" for base in wrong]


def local_findings(tree):
    """No parameter and no local is called like a class or an import of its file (L15)."""
    rows = [node for node in tree.body if isinstance(node, ast.ImportFrom)]
    taken = {alias.asname or alias.name for node in rows for alias in node.names} | class_names([tree])
    found = []
    for node in ast.walk(tree):
        name = node.arg if isinstance(node, ast.arg) else None
        if isinstance(node, ast.Name) and isinstance(node.ctx, ast.Store):
            name = node.id
        if isinstance(node, ast.ExceptHandler):
            name = node.name
        if name in taken:
            found.append(f"L15 line {node.lineno}: {name}")
    return found


def bound_at_the_top(tree):
    names = [node.name for node in tree.body if isinstance(node, (ast.FunctionDef, ast.ClassDef))]
    return names + [node.targets[0].id for node in tree.body if isinstance(node, ast.Assign)]


def drawn_findings(trees, package):
    """Each name is drawn from the very file that defines it (L16); trees: a dict by the files' names."""
    found = []
    for name, tree in trees.items():
        for node in tree.body:
            if isinstance(node, ast.ImportFrom):
                source = trees.get((node.module or "").removeprefix(package + "."))
                defined = [] if source is None else bound_at_the_top(source)
                found += [f"L16 {name}: {alias.name}" for alias in node.names if alias.name not in defined]
    return found


def use_findings(source, trees):
    """What is outside the rules in one file; trees: those of all files, for their classes and methods."""
    tree = ast.parse(source)
    parents = parents_of(tree)
    classes = class_names(trees)
    methods = own_methods(trees) | set(METHODS)
    stored = {node.attr for each in trees for node in ast.walk(each)
              if isinstance(node, ast.Attribute) and isinstance(node.ctx, ast.Store)}
    found = lambda_findings(tree) + local_findings(tree)
    found += [f"L27 an escape: {escape}" for escape in OTHER_ESCAPE.findall(source)]
    for node in ast.walk(tree):
        found += class_use_findings(node, parents, classes) + own_name_findings(node, parents)
        found += method_findings(node, parents, methods - stored) + keyword_findings(node)
        found += set_findings(node, parents) + loop_findings(node) + def_use_findings(node)
        found += base_findings(node, classes)
        if isinstance(node, ast.Attribute) and node.attr in FRAME_NAMES:
            found.append(f"L17 line {node.lineno}: {node.attr}")
    return found


def is_free_file_name(stem):
    """A file's name that L14 leaves free."""
    others = ("tests", "testing", "site", "conftest", "sitecustomize", "usercustomize", "typing", "enum")
    return not stem.startswith("test") and stem not in others and stem not in dir(builtins)
