"""Looks at a package's own files as ../shared/LANGUAGE.md asks, as far as it can be seen.

A package is handed in as a dict: each entry's path from the package's folder on
("frames.py", "part/__init__.py") and its text. `faults` gives back pairs of a
rule's name and what is wrong.
"""

import ast
import builtins
import re

PACKAGE = "beadframes"

INTERFACE = ("judge", "span", "value", "digits", "show", "formed", "ways", "nth", "rank", "fewest")

BUILT_IN = set(
    "len range enumerate zip min max sum abs sorted reversed int str bool list tuple dict set frozenset isinstance "
    "ord repr any all divmod Exception ValueError TypeError KeyError IndexError LookupError ZeroDivisionError "
    "ArithmeticError OverflowError RuntimeError NotImplementedError AttributeError StopIteration".split()
)
METHODS = set(
    "append clear copy count endswith extend find get index insert isalnum isalpha isdigit islower isspace isupper "
    "items join keys ljust lower lstrip partition pop remove replace reverse rfind rjust rpartition rsplit rstrip "
    "setdefault split splitlines startswith strip update upper values zfill bit_length".split()
)
UNUSED_NAMES = set(
    "register mro elements open input version_info with_traceback add_note attrgetter breakpoint builtins compile "
    "copyright credits delattr dir eval exec exit gc getattr globals hasattr help id importlib license locals "
    "methodcaller os quit setattr super type vars".split()
)
FRAME_NAMES = re.compile(r"(f|tb|co|gi|cr|ag)_[a-z]+")
UNUSED_WORDS = re.compile(
    r"\b(type|typing|typing_extensions|enum|Enum|IntEnum|StrEnum|Flag|IntFlag|Generic|Protocol|ABC|ABCMeta|"
    r"namedtuple|NamedTuple|TypedDict|TYPE_CHECKING|abstractmethod)\b|dataclass|overload|contextmanager"
)
UNUSED_FILE_NAME = re.compile(
    r"(test|tests|testing|test_.*|site|conftest|sitecustomize|usercustomize|type|typing|typing_extensions|enum|"
    r"namedtuple|abstractmethod|.*(dataclass|overload|contextmanager).*)"
)
STATEMENTS = (
    ast.Assign, ast.AugAssign, ast.AnnAssign, ast.If, ast.While, ast.For, ast.Return, ast.Break, ast.Continue,
    ast.Pass, ast.Raise, ast.Try, ast.Expr, ast.FunctionDef, ast.ClassDef, ast.Import, ast.ImportFrom,
)
EXPRESSIONS = (
    ast.Constant, ast.List, ast.Tuple, ast.Dict, ast.Set, ast.BinOp, ast.UnaryOp, ast.BoolOp, ast.Compare, ast.IfExp,
    ast.Call, ast.Attribute, ast.Subscript, ast.Slice, ast.ListComp, ast.JoinedStr, ast.FormattedValue, ast.Name,
    ast.Lambda,
)


def faults(files):
    """All that is found against the rules in the files of a package."""
    found = faults_of_names(files)
    trees = {}
    for path, text in files.items():
        if not path.endswith(".py"):
            continue
        found += [(rule, f"{path}: {what}") for rule, what in faults_of_text(text)]
        trees[path] = ast.parse(text)
        found += [(rule, f"{path}: {what}") for rule, what in faults_of_tree(path, trees[path])]
    return found + faults_of_imports(trees) + faults_of_interface(trees)


def faults_of_names(files):
    found = []
    folders = {""}
    for path in files:
        *parents, name = path.split("/")
        for depth in range(len(parents)):
            folders.add("/".join(parents[:depth + 1]) + "/")
        plain = ("__init__.py", "__main__.py") if not parents else ("__init__.py",)
        if name not in plain and not re.fullmatch(r"[a-z][a-z0-9_]*\.py", name):
            found.append(("L1", f"{path}: not a plain lower-case .py file"))
        for part in [*parents, name.removesuffix(".py")]:
            if UNUSED_FILE_NAME.fullmatch(part) or part in dir(builtins):
                found.append(("L14", f"{path}: not a name for a file or folder"))
    for folder in sorted(folders):
        if folder + "__init__.py" not in files:
            found.append(("L14", f"{folder or PACKAGE}: no __init__.py"))
    return found


def faults_of_text(text):
    found = []
    rows = text.split("\n")
    if len(text.splitlines()) > 399:
        found.append(("L10", "more than 399 lines"))
    for number, row in enumerate(rows, start=1):
        if len(row) > 120:
            found.append(("L10", f"line {number}: more than 120 characters"))
        if re.search(r"[^ -~]", row):
            found.append(("L14", f"line {number}: a sign that is not from the blank to ~"))
        if UNUSED_WORDS.search(row):
            found.append(("L17", f"line {number}: a word that stands nowhere"))
    return found


def faults_of_tree(path, tree):
    is_main = path == "__main__.py"
    found = faults_of_top(tree, is_main)
    methods = {node.name for node in ast.walk(tree) if isinstance(node, ast.FunctionDef)}
    for node in ast.walk(tree):
        row = getattr(node, "lineno", 0)
        for rule, what in [
            *faults_of_statement(node),
            *faults_of_expression(node, methods),
            *faults_of_name(node, is_main),
        ]:
            found.append((rule, f"line {row}: {what}"))
    return found


def faults_of_top(tree, is_main):
    found = []
    bound = []
    for place, node in enumerate(tree.body):
        if isinstance(node, (ast.FunctionDef, ast.ClassDef)):
            bound.append(node.name)
        elif isinstance(node, (ast.Import, ast.ImportFrom)):
            bound += [part.asname or part.name for part in node.names]
        elif isinstance(node, ast.Assign) and isinstance(node.targets[0], ast.Name) and is_plain(node.value):
            bound.append(node.targets[0].id)
        elif isinstance(node, ast.Expr) and place == 0 and isinstance(node.value, ast.Constant):
            pass
        elif not (is_main and isinstance(node, ast.If) and place == len(tree.body) - 1):
            found.append(("L3", f"line {node.lineno}: not for the top of a module"))
    if not ast.get_docstring(tree):
        found.append(("L3", "no docstring"))
    for name in sorted(set(bound)):
        if bound.count(name) > 1:
            found.append(("L15", f"{name}: bound more than once at the top"))
    return found


def is_plain(node):
    if isinstance(node, ast.UnaryOp) and isinstance(node.op, ast.USub):
        return is_plain(node.operand)
    if isinstance(node, (ast.List, ast.Tuple)):
        return all(is_plain(part) for part in node.elts)
    if isinstance(node, ast.Dict):
        return all(part is not None and is_plain(part) for part in [*node.keys, *node.values])
    return isinstance(node, (ast.Constant, ast.Name))


def faults_of_statement(node):
    if isinstance(node, ast.stmt) and not isinstance(node, STATEMENTS):
        yield "L6", "a statement that is not used"
    if isinstance(node, (ast.For, ast.While)) and node.orelse:
        yield "L6", "else behind a loop"
    if isinstance(node, ast.Try) and node.finalbody:
        yield "L6", "finally"
    if isinstance(node, ast.Assign) and len(node.targets) > 1:
        yield "L6", "more than one target"
    if isinstance(node, ast.Expr) and not isinstance(node.value, (ast.Call, ast.Constant)):
        yield "L6", "an expression by itself"
    if isinstance(node, (ast.FunctionDef, ast.ClassDef)) and node.decorator_list:
        yield "L4", "a decorator"
    if isinstance(node, ast.arguments) and (node.vararg or node.kwarg or node.kwonlyargs or node.posonlyargs):
        yield "L4", "parameters that are not plain"
    if isinstance(node, ast.FunctionDef) and node.end_lineno - node.lineno + 1 > 40:
        yield "L10", "a function of more than 40 lines"
    if isinstance(node, ast.ClassDef) and (len(node.bases) > 1 or node.keywords):
        yield "L5", "more than one base"
    if isinstance(node, ast.ExceptHandler) and node.type is None:
        yield "L6", "except without a named error class"


def faults_of_expression(node, methods):
    if isinstance(node, ast.expr) and not isinstance(node, (*EXPRESSIONS, ast.Starred)):
        yield "L7", "an expression that is not used"
    if isinstance(node, ast.Starred):
        yield "L7", "a star"
    if isinstance(node, ast.Constant) and isinstance(node.value, (float, complex, bytes)):
        yield "L7", "a float or bytes"
    if isinstance(node, (ast.Div, ast.MatMult)):
        yield "L7", "/ or @"
    if isinstance(node, ast.ListComp) and (len(node.generators) > 1 or len(node.generators[0].ifs) > 1):
        yield "L7", "a comprehension of more than one for or if"
    if isinstance(node, ast.FormattedValue) and not (
        isinstance(node.value, ast.Name) and node.conversion in (-1, ord("r")) and node.format_spec is None
    ):
        yield "L7", "an f-string that is not plain"
    if isinstance(node, ast.BinOp) and isinstance(node.op, ast.Pow) and not (
        isinstance(node.right, ast.Constant) and node.right.value in range(65)
    ):
        yield "L27", "an exponent that is not written, or not of 0 to 64"
    if isinstance(node, ast.Constant) and isinstance(node.value, str) and "%" in node.value:
        yield "L27", "the sign % in a text"
    if isinstance(node, ast.Compare):
        for operator, right in zip(node.ops, node.comparators):
            if isinstance(operator, (ast.Is, ast.IsNot)) and not (
                isinstance(right, ast.Constant) and any(right.value is one for one in (None, True, False))
            ):
                yield "L20", "is beside something else than None, True, False"
    if isinstance(node, ast.Call) and isinstance(node.func, ast.Attribute):
        if node.func.attr not in METHODS | methods:
            yield "L25", f"{node.func.attr}: not a method that is used"


def faults_of_name(node, is_main):
    if isinstance(node, ast.Name):
        name, is_read = node.id, isinstance(node.ctx, ast.Load)
    elif isinstance(node, ast.arg):
        name, is_read = node.arg, False
    elif isinstance(node, (ast.FunctionDef, ast.ClassDef)):
        name, is_read = node.name, False
    elif isinstance(node, ast.Attribute):
        name, is_read = node.attr, True
    else:
        return
    if name in UNUSED_NAMES or FRAME_NAMES.fullmatch(name):
        yield "L17", f"{name}: a name that is not used"
    if not is_main and name in ("sys", "__name__"):
        yield "L17", f"{name}: a name for __main__.py alone"
    if not re.fullmatch(r"[A-Za-z][A-Za-z0-9_]*|__[a-z]+__", name):
        yield "L12", f"{name}: not a plain name"
    if isinstance(node, ast.Attribute):
        return
    if is_read and name in dir(builtins) and name not in BUILT_IN and not (is_main and name in ("print", "__name__")):
        yield "L8", f"{name}: not one of Python's own names that are used"
    if not is_read and name in dir(builtins):
        yield "L15", f"{name}: a name of Python's own"


def faults_of_imports(trees):
    found = []
    drawn = {path: set() for path in trees}
    for path, tree in trees.items():
        for node in ast.walk(tree):
            if isinstance(node, ast.Import):
                if path != "__main__.py" or [part.name for part in node.names] != ["sys"]:
                    found.append(("L16", f"{path}: line {node.lineno}: import of a file or of Python's own"))
            if not isinstance(node, ast.ImportFrom) or node.module == "__future__":
                continue
            if node not in tree.body:
                found.append(("L2", f"{path}: line {node.lineno}: an import that is not at the top"))
            source = source_of(node, trees)
            if source is None:
                found.append(("L2", f"{path}: line {node.lineno}: not a file of the package by its full name"))
                continue
            drawn[path] |= {source, *inits_above(source)} - {path}
            for part in node.names:
                if part.name == "*" or part.name not in names_defined(trees[source]):
                    found.append(("L16", f"{path}: {part.name} is not defined in {source}"))
    for path in trees:
        if path in reached_from(path, drawn):
            found.append(("L16", f"{path}: draws from itself"))
    return found


def source_of(node, trees):
    """The path of the package's file that an import draws from, or None."""
    if node.level or not node.module or not (node.module + ".").startswith(PACKAGE + "."):
        return None
    path = "/".join(node.module.split(".")[1:])
    for candidate in (path + ".py", (path + "/__init__.py").lstrip("/")):
        if candidate in trees and candidate != "__main__.py":
            return candidate
    return None


def inits_above(path):
    parents = path.split("/")[:-1]
    return {"/".join([*parents[:depth], "__init__.py"]) for depth in range(len(parents) + 1)}


def names_defined(tree):
    names = {node.name for node in tree.body if isinstance(node, (ast.FunctionDef, ast.ClassDef))}
    for node in tree.body:
        if isinstance(node, ast.Assign):
            names |= {target.id for target in node.targets if isinstance(target, ast.Name)}
    return names


def reached_from(path, drawn):
    reached = set()
    waiting = list(drawn[path])
    while waiting:
        source = waiting.pop()
        if source not in reached:
            reached.add(source)
            waiting += drawn[source]
    return reached


def faults_of_interface(trees):
    """Interface functions that stand elsewhere than in frames.py, or not as plain defs there."""
    found = []
    for path, tree in trees.items():
        for node in tree.body:
            name = getattr(node, "name", None)
            if name in INTERFACE and path != "frames.py":
                found.append(("L16", f"{path}: {name} stands elsewhere than in frames.py"))
            elif name in INTERFACE and (not isinstance(node, ast.FunctionDef) or node.args.defaults):
                found.append(("L16", f"{path}: {name} is not a plain def without defaults"))
            if isinstance(node, ast.ImportFrom) and path == "frames.py":
                for part in node.names:
                    if part.name in INTERFACE or part.asname in INTERFACE:
                        found.append(("L16", f"{path}: {part.name} is imported into it"))
    return found
