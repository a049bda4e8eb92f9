"""Tells where a file of the package leaves the part of Python that the package keeps to.

Not every rule can be seen from a file's text; these are the ones that can be seen simply.
Each fault is told as a text that begins with the rule's number.
"""

import ast
import builtins
import re

NODES = (
    ast.Module, ast.ImportFrom, ast.alias, ast.FunctionDef, ast.arguments, ast.arg, ast.Lambda,
    ast.ClassDef, ast.Assign, ast.AugAssign, ast.If, ast.While, ast.For, ast.Return, ast.Break,
    ast.Continue, ast.Pass, ast.Raise, ast.Try, ast.ExceptHandler, ast.Expr, ast.Constant,
    ast.List, ast.Tuple, ast.Dict, ast.Set, ast.BinOp, ast.UnaryOp, ast.BoolOp, ast.Compare,
    ast.IfExp, ast.Call, ast.keyword, ast.Attribute, ast.Subscript, ast.Slice, ast.ListComp,
    ast.comprehension, ast.JoinedStr, ast.FormattedValue, ast.Name, ast.operator, ast.unaryop,
    ast.boolop, ast.cmpop, ast.expr_context,
)
TOP_NODES = (ast.ImportFrom, ast.FunctionDef, ast.ClassDef, ast.Assign)
OWN_NAMES = tuple(
    "len range enumerate zip min max sum abs sorted reversed int str bool list tuple dict set"
    " frozenset isinstance ord repr any all divmod Exception ValueError TypeError KeyError"
    " IndexError LookupError ZeroDivisionError ArithmeticError OverflowError RuntimeError"
    " NotImplementedError AttributeError StopIteration".split()
)
DUNDERS = ("__init__", "__eq__", "__repr__", "__str__", "__len__", "__all__", "__version__")
METHODS = tuple(
    "append clear copy count endswith extend find get index insert isalnum isalpha isdigit islower"
    " isspace isupper items join keys ljust lower lstrip partition pop remove replace reverse rfind"
    " rjust rpartition rsplit rstrip setdefault split splitlines startswith strip update upper"
    " values zfill bit_length".split()
)
ROWS = ("zip", "enumerate", "reversed", "range")
WALKERS = ("list", "tuple", "dict", "sorted", "sum", "any", "all", "enumerate", "min", "max")
WORDS = re.compile(
    r"\b(type|typing|typing_extensions|enum|Enum|IntEnum|StrEnum|Flag|IntFlag|Generic|Protocol|ABC"
    r"|ABCMeta|namedtuple|NamedTuple|TypedDict|TYPE_CHECKING|abstractmethod)\b"
    r"|dataclass|overload|contextmanager"
)
FILE_NAME = re.compile(r"([a-z][a-z0-9_]*|__init__)\.py")
PLAIN_NAME = re.compile(r"[A-Za-z][A-Za-z0-9_]*")


def file_name_faults(name):
    stem = name[:-3]
    if not FILE_NAME.fullmatch(name):
        return [f"L14 {name}: no plain file name"]
    if stem in dir(builtins) or stem.startswith("test") or stem in ("site", "conftest"):
        return [f"L14 {name}: a name that is not used"]
    return []


def text_faults(text):
    faults = []
    rows = text.split("\n")
    if len(rows) > 401 or (len(rows) == 401 and rows[-1]):
        faults.append("L10 file of more than 400 lines")
    for number, row in enumerate(rows, start=1):
        if len(row) > 120:
            faults.append(f"L10 line {number}: more than 120 characters")
        if any(not " " <= letter <= "~" for letter in row):
            faults.append(f"L14 line {number}: a sign outside the plain ones")
        if WORDS.search(row):
            faults.append(f"L17 line {number}: a word that stands nowhere")
    return faults


def top_faults(tree):
    faults = []
    for place, node in enumerate(tree.body):
        docstring = place == 0 and isinstance(node, ast.Expr) and isinstance(node.value, ast.Constant)
        if not docstring and not isinstance(node, TOP_NODES):
            faults.append(f"L3 line {node.lineno}: does not stand at a file's top")
    for node in ast.walk(tree):
        if isinstance(node, ast.Import) or isinstance(node, ast.ImportFrom) and node not in tree.body:
            faults.append(f"L2 line {node.lineno}: an import that is not at the top, or not of the one form")
    return faults


def function_faults(node):
    faults = []
    if node.end_lineno - node.lineno + 1 > 40:
        faults.append(f"L10 line {node.lineno}: more than 40 lines")
    if node.decorator_list:
        faults.append(f"L4 line {node.lineno}: a decorator")
    return faults


def argument_faults(node):
    if node.vararg or node.kwarg or node.kwonlyargs or node.posonlyargs:
        return ["L4 a parameter that is not plain"]
    return []


def class_faults(node):
    faults = []
    if node.decorator_list or node.keywords or len(node.bases) > 1:
        faults.append(f"L5 line {node.lineno}: no plain class")
    for part in node.body:
        if not isinstance(part, (ast.FunctionDef, ast.Pass)):
            faults.append(f"L5 line {part.lineno}: no method")
    return faults


def import_faults(node):
    if node.level or not (node.module.startswith("hillcut.") or node.module == "__future__"):
        return [f"L2 line {node.lineno}: an import from outside, or with a leading dot"]
    if any(part.name == "*" for part in node.names):
        return [f"L2 line {node.lineno}: an import of everything"]
    return []


def name_faults(node):
    if isinstance(node.ctx, ast.Load):
        if node.id in dir(builtins) and node.id not in OWN_NAMES:
            return [f"L8 line {node.lineno}: {node.id}"]
        return []
    return bound_name_faults(node.id, node.lineno)


def bound_name_faults(name, line):
    if name in dir(builtins):
        return [f"L15 line {line}: {name} is a name of Python's own"]
    if not PLAIN_NAME.fullmatch(name) and name not in DUNDERS:
        return [f"L12 line {line}: {name} is no plain name"]
    return []


def constant_faults(node):
    if not isinstance(node.value, (int, str)) and node.value is not None:
        return [f"L7 line {node.lineno}: a value of a kind that is not used"]
    if isinstance(node.value, str) and "%" in node.value:
        return [f"L27 line {node.lineno}: a sign that no text holds"]
    return []


def compare_faults(node):
    faults = []
    for sign, value in zip(node.ops, node.comparators):
        plain = isinstance(value, ast.Constant) and (value.value is None or isinstance(value.value, bool))
        if isinstance(sign, (ast.Is, ast.IsNot)) and not plain:
            faults.append(f"L20 line {node.lineno}: is beside something else")
    return faults


def statement_faults(node):
    if isinstance(node, (ast.For, ast.While)) and node.orelse:
        return [f"L6 line {node.lineno}: else behind a loop"]
    if isinstance(node, ast.Try) and node.finalbody:
        return [f"L6 line {node.lineno}: finally"]
    if isinstance(node, ast.Assign) and len(node.targets) > 1:
        return [f"L6 line {node.lineno}: more than one target"]
    if isinstance(node, (ast.BinOp, ast.AugAssign)):
        return operator_faults(node)
    if isinstance(node, ast.ListComp) and (len(node.generators) > 1 or len(node.generators[0].ifs) > 1):
        return [f"L7 line {node.lineno}: more than one for or if"]
    return []


def operator_faults(node):
    if isinstance(node.op, (ast.Div, ast.MatMult)):
        return [f"L7 line {node.lineno}: an operator that is not used"]
    if isinstance(node.op, ast.Pow):
        power = node.right if isinstance(node, ast.BinOp) else node.value
        if not (isinstance(power, ast.Constant) and power.value in range(65)):
            return [f"L27 line {node.lineno}: an exponent that is not written out"]
    return []


def call_faults(node, own_methods):
    if isinstance(node.func, ast.Attribute) and node.func.attr not in METHODS + own_methods:
        return [f"L25 line {node.lineno}: {node.func.attr}"]
    return []


def node_faults(node, own_methods):
    if not isinstance(node, NODES):
        return [f"L6 or L7 line {getattr(node, 'lineno', 0)}: {type(node).__name__}"]
    faults = statement_faults(node)
    if isinstance(node, ast.FunctionDef):
        faults += function_faults(node)
        faults += bound_name_faults(node.name, node.lineno) if node.name not in own_methods else []
    if isinstance(node, ast.arguments):
        faults += argument_faults(node)
    if isinstance(node, ast.arg):
        faults += bound_name_faults(node.arg, node.lineno)
    if isinstance(node, ast.ClassDef):
        faults += class_faults(node)
    if isinstance(node, ast.ImportFrom):
        faults += import_faults(node)
    if isinstance(node, ast.Name):
        faults += name_faults(node)
    if isinstance(node, ast.Constant):
        faults += constant_faults(node)
    if isinstance(node, ast.Compare):
        faults += compare_faults(node)
    if isinstance(node, ast.Call):
        faults += call_faults(node, own_methods)
    return faults


def own_name_faults(tree):
    """A parameter or a local that is called like a class or an import of its file, or a name bound twice."""
    tops = [node.name for node in tree.body if isinstance(node, (ast.FunctionDef, ast.ClassDef))]
    taken = [node.name for node in tree.body if isinstance(node, ast.ClassDef)]
    for node in tree.body:
        if isinstance(node, ast.ImportFrom):
            taken += [part.asname or part.name for part in node.names]
            tops += [part.asname or part.name for part in node.names]
        if isinstance(node, ast.Assign):
            tops += [target.id for target in node.targets if isinstance(target, ast.Name)]
    faults = [f"L15 {name}: bound twice" for name in sorted(set(tops)) if tops.count(name) > 1]
    for node in ast.walk(tree):
        if isinstance(node, ast.arg) and node.arg in taken:
            faults.append(f"L15 line {node.lineno}: {node.arg}")
        if isinstance(node, ast.Name) and isinstance(node.ctx, ast.Store) and node.id in taken:
            faults.append(f"L15 line {node.lineno}: {node.id}")
    return faults


def calls(node, names):
    return isinstance(node, ast.Call) and isinstance(node.func, ast.Name) and node.func.id in names


def walked_on_the_spot(node, around):
    if isinstance(around, (ast.For, ast.comprehension)):
        return around.iter is node
    return calls(around, WALKERS) and around.args[:1] == [node] or calls(around, ("zip",))


def set_on_the_spot(node, around):
    if isinstance(around, ast.Compare):
        return all(isinstance(sign, (ast.In, ast.NotIn, ast.Eq, ast.NotEq)) for sign in around.ops)
    return calls(around, ("sorted", "len")) and not around.keywords


def spot_faults(tree):
    """Rows of values that are kept and not walked at once, and sets that are kept or walked."""
    around = {part: node for node in ast.walk(tree) for part in ast.iter_child_nodes(node)}
    faults = []
    for node in ast.walk(tree):
        if calls(node, ROWS) and not walked_on_the_spot(node, around[node]):
            faults.append(f"L23 line {node.lineno}: {node.func.id} is kept")
        if calls(node, ("set", "frozenset")):
            outer = around[node]
            while isinstance(outer, ast.BinOp):
                outer = around[outer]
            if not set_on_the_spot(node, outer):
                faults.append(f"L24 line {node.lineno}: a set is kept or walked")
    return faults


def methods_of(text):
    classes = [node for node in ast.walk(ast.parse(text)) if isinstance(node, ast.ClassDef)]
    return tuple(part.name for node in classes for part in node.body if isinstance(part, ast.FunctionDef))


def file_faults(text, own_methods=()):
    tree = ast.parse(text)
    faults = text_faults(text) + top_faults(tree) + own_name_faults(tree) + spot_faults(tree)
    for node in ast.walk(tree):
        faults += node_faults(node, own_methods)
    return faults


def drawn_from(text):
    """The modules that a file draws from, the package's own file among them."""
    drawn = []
    for node in ast.walk(ast.parse(text)):
        if isinstance(node, ast.ImportFrom) and node.module != "__future__":
            drawn += ["hillcut", node.module]
    return drawn


def defined_in(text):
    names = []
    for node in ast.parse(text).body:
        if isinstance(node, (ast.FunctionDef, ast.ClassDef)):
            names.append(node.name)
        if isinstance(node, ast.Assign):
            names += [target.id for target in node.targets if isinstance(target, ast.Name)]
    return names


def package_faults(texts):
    """Faults that show only where the files, a dict of texts by module names, are seen together."""
    faults = []
    for module, text in texts.items():
        reached, ahead = [], drawn_from(text)
        while ahead:
            name = ahead.pop()
            if name not in reached:
                reached.append(name)
                ahead += drawn_from(texts.get(name, ""))
        if module in reached:
            faults.append(f"L16 {module} draws from itself")
        for node in ast.walk(ast.parse(text)):
            if isinstance(node, ast.ImportFrom) and node.module != "__future__":
                known = defined_in(texts.get(node.module, ""))
                faults += [f"L16 {module}: {part.name}" for part in node.names if part.name not in known]
    return faults
