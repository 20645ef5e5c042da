"""Those rules of LANGUAGE.md that can be read off one source file, as functions from a source to its faults."""

import ast
import builtins
import re

PACKAGE = "twicetold"

OWN_NAMES = set("""
len range enumerate zip min max sum abs sorted reversed int str bool list tuple dict set frozenset isinstance ord repr
any all divmod Exception ValueError TypeError KeyError IndexError LookupError ZeroDivisionError ArithmeticError
OverflowError RuntimeError NotImplementedError AttributeError StopIteration
""".split())

OWN_METHODS = set("""
append clear copy count endswith extend find get index insert isalnum isalpha isdigit islower isspace isupper items
join keys ljust lower lstrip partition pop remove replace reverse rfind rjust rpartition rsplit rstrip setdefault
split splitlines startswith strip update upper values zfill bit_length
""".split())

DOUBLE_METHODS = {"__init__", "__eq__", "__repr__", "__str__", "__len__"}

WORDS_OUT = set("""
type typing typing_extensions enum Enum IntEnum StrEnum Flag IntFlag Generic Protocol ABC ABCMeta namedtuple NamedTuple
TypedDict TYPE_CHECKING abstractmethod
""".split())
PARTS_OUT = ("dataclass", "overload", "contextmanager")

NAMES_OUT = set("""
register mro elements open input version_info with_traceback add_note attrgetter breakpoint builtins compile copyright
credits delattr dir eval exec exit gc getattr globals hasattr help id importlib license locals methodcaller os quit
setattr super type vars sys __name__
""".split())
ATTRIBUTES_OUT = {"register", "mro", "elements", "open", "input", "version_info", "with_traceback", "add_note",
                  "format", "format_map"}

VALUES_FREE = set("count index title find get join lower upper split strip copy add".split())
VALUES_OUT = {name for kind in (str, int, list, dict, set, bytes, tuple) for name in dir(kind)} | {"args"}

WALKED = {"zip", "enumerate", "reversed", "range"}
WALKED_METHODS = {"items", "keys", "values"}
WALKERS = {"list", "tuple", "dict", "sorted", "sum", "any", "all", "enumerate", "zip", "min", "max"}

KEYWORDS = {"sorted": {"key", "reverse"}, "min": {"key", "default"}, "max": {"key", "default"}, "sum": {"start"},
            "enumerate": {"start"}, "zip": {"strict"}}

NODES = (
    ast.Module, ast.FunctionDef, ast.ClassDef, ast.arguments, ast.arg, ast.Lambda, ast.ImportFrom, ast.alias,
    ast.Assign, ast.AugAssign, ast.If, ast.While, ast.For, ast.Return, ast.Break, ast.Continue, ast.Pass, ast.Raise,
    ast.Try, ast.ExceptHandler, ast.Expr, ast.Constant, ast.List, ast.Tuple, ast.Dict, ast.BinOp, ast.UnaryOp,
    ast.BoolOp, ast.Compare, ast.IfExp, ast.Call, ast.keyword, ast.Attribute, ast.Subscript, ast.Slice, ast.ListComp,
    ast.comprehension, ast.JoinedStr, ast.FormattedValue, ast.Name, ast.operator, ast.unaryop, ast.boolop, ast.cmpop,
    ast.expr_context,
)
NODES_OUT = (ast.Div, ast.MatMult)


def sign_faults(source):
    return [f"L14 the sign {sign!r}" for sign in source if sign != "\n" and not " " <= sign <= "~"]


def size_faults(source):
    rows = source.split("\n")
    faults = [f"L10 row {number} is too long" for number, row in enumerate(rows, 1) if len(row) > 120]
    if len(source.splitlines()) > 400:
        faults.append("L10 the file is too long")
    for node in ast.walk(ast.parse(source)):
        if isinstance(node, ast.FunctionDef) and node.end_lineno - node.lineno + 1 > 40:
            faults.append(f"L10 {node.name} is too long")
    return faults


def word_faults(source):
    faults = [f"L17 the word {word}" for word in re.findall(r"\w+", source) if word in WORDS_OUT]
    faults += [f"L17 the part {part}" for part in PARTS_OUT if part in source]
    for node in ast.walk(ast.parse(source)):
        if isinstance(node, ast.Constant) and isinstance(node.value, str) and "%" in node.value:
            faults.append("L27 a percent sign within a text")
    return faults


def node_fault(node):
    if not isinstance(node, NODES) or isinstance(node, NODES_OUT):
        return "L6/L7 not of the language"
    if isinstance(node, ast.Constant) and isinstance(node.value, (float, complex, bytes, type(...))):
        return "L7 a value that is not of the language"
    if isinstance(node, ast.Assign) and len(node.targets) > 1:
        return "L6 more than one target"
    if isinstance(node, (ast.For, ast.While)) and node.orelse:
        return "L6 else behind a loop"
    if isinstance(node, ast.Try) and node.finalbody:
        return "L6 finally"
    if isinstance(node, ast.ExceptHandler) and handler_is_wide(node):
        return "L19 except without a name, or of Exception or TypeError"
    if isinstance(node, ast.ListComp) and (len(node.generators) > 1 or len(node.generators[0].ifs) > 1):
        return "L7 a comprehension with more than one for or if"
    if isinstance(node, (ast.FunctionDef, ast.ClassDef)) and node.decorator_list:
        return "L4/L5 a decorator"
    if isinstance(node, ast.arguments) and (node.vararg or node.kwarg or node.kwonlyargs or node.posonlyargs):
        return "L4 more than plain parameters"
    if isinstance(node, ast.ClassDef) and class_is_more_than_plain(node):
        return "L5 more than a plain class"
    if isinstance(node, ast.Compare) and is_beside_a_value(node):
        return "L20 is beside another thing than None, True, False"
    return None


def handler_is_wide(node):
    names = [part.id for part in ast.walk(node.type) if isinstance(part, ast.Name)] if node.type else []
    return not names or "Exception" in names or "TypeError" in names


def class_is_more_than_plain(node):
    body = [part for part in node.body if not is_docstring(part)]
    return len(node.bases) > 1 or bool(node.keywords) or not all(
        isinstance(part, (ast.FunctionDef, ast.Pass)) for part in body)


def is_docstring(node):
    return isinstance(node, ast.Expr) and isinstance(node.value, ast.Constant) and isinstance(node.value.value, str)


def is_beside_a_value(node):
    sides = [node.left] + node.comparators
    for place, sign in enumerate(node.ops):
        if isinstance(sign, (ast.Is, ast.IsNot)):
            pair = sides[place:place + 2]
            if not any(isinstance(side, ast.Constant) and side.value in (None, True, False) for side in pair):
                return True
    return False


def node_faults(source):
    faults = []
    for node in ast.walk(ast.parse(source)):
        fault = node_fault(node)
        if fault:
            faults.append(f"{fault}: row {getattr(node, 'lineno', '?')}, {ast.dump(node)[:60]}")
    return faults


def top_faults(source):
    faults = []
    for place, node in enumerate(ast.parse(source).body):
        docstring = place == 0 and is_docstring(node)
        if not docstring and not isinstance(node, (ast.ImportFrom, ast.FunctionDef, ast.ClassDef, ast.Assign)):
            faults.append(f"L3 row {node.lineno} at the file's top")
    bound = top_names(source)
    faults += [f"L15 {name} is bound twice" for name in sorted(set(bound)) if bound.count(name) > 1]
    return faults


def top_names(source):
    bound = []
    for node in ast.parse(source).body:
        if isinstance(node, (ast.FunctionDef, ast.ClassDef)):
            bound.append(node.name)
        elif isinstance(node, ast.Assign):
            bound += [part.id for part in ast.walk(node.targets[0]) if isinstance(part, ast.Name)]
        elif isinstance(node, ast.ImportFrom):
            bound += [alias.asname or alias.name for alias in node.names]
    return bound


def import_faults(source):
    tree = ast.parse(source)
    faults = []
    for node in ast.walk(tree):
        if not isinstance(node, ast.ImportFrom):
            continue
        own = node.level == 0 and (node.module or "").startswith(PACKAGE + ".")
        if node not in tree.body or not (own or node.module == "__future__"):
            faults.append(f"L2/L16 the import in row {node.lineno}")
        if any(alias.name == "*" for alias in node.names):
            faults.append(f"L2 import of all in row {node.lineno}")
    return faults


def bound_names(tree):
    bound = []
    for node in ast.walk(tree):
        if isinstance(node, (ast.FunctionDef, ast.ClassDef, ast.ExceptHandler)) and node.name:
            bound.append(node.name)
        elif isinstance(node, ast.arg):
            bound.append(node.arg)
        elif isinstance(node, ast.Name) and isinstance(node.ctx, ast.Store):
            bound.append(node.id)
        elif isinstance(node, ast.alias):
            bound.append(node.asname or node.name)
    return bound


def methods_of(tree):
    return [part.name for node in ast.walk(tree) if isinstance(node, ast.ClassDef)
            for part in node.body if isinstance(part, ast.FunctionDef)]


def name_faults(source):
    tree = ast.parse(source)
    bound = bound_names(tree)
    methods = methods_of(tree)
    faults = []
    for name in bound:
        plain = re.fullmatch(r"[A-Za-z][A-Za-z0-9_]*", name) or name in ("__all__", "__version__")
        if not plain and not (name in DOUBLE_METHODS and name in methods):
            faults.append(f"L12 the name {name}")
        if name in dir(builtins) and name not in methods:
            faults.append(f"L15 the name {name} is one of Python's own")
    for node in ast.walk(tree):
        if isinstance(node, ast.Name) and (node.id in NAMES_OUT or node.id not in OWN_NAMES and node.id not in bound):
            faults.append(f"L8/L17 the name {node.id}")
    return faults


def attribute_faults(source, methods):
    """The faults of the attributes in a source; `methods` are those of all the package's classes."""
    faults = []
    for node in ast.walk(ast.parse(source)):
        if isinstance(node, ast.Attribute):
            name = node.attr
            if name in ATTRIBUTES_OUT or name.startswith("_") and name not in DOUBLE_METHODS:
                faults.append(f"L8/L12/L17 the attribute {name}")
        if isinstance(node, ast.Call) and isinstance(node.func, ast.Attribute):
            name = node.func.attr
            if name not in OWN_METHODS and name not in methods and name not in DOUBLE_METHODS:
                faults.append(f"L25 the method {name}")
    return faults


def shadow_faults(source):
    """Parameters and locals that are called like a class or an import of their file."""
    tree = ast.parse(source)
    taken = [node.name for node in tree.body if isinstance(node, ast.ClassDef)]
    taken += [alias.asname or alias.name for node in tree.body if isinstance(node, ast.ImportFrom)
              for alias in node.names]
    faults = []
    for function in ast.walk(tree):
        if isinstance(function, (ast.FunctionDef, ast.Lambda)):
            body = function.body if isinstance(function.body, list) else [function.body]
            names = [name for part in body + [function.args] for name in bound_names(part)]
            faults += [f"L15 the local {name}" for name in names if name in taken]
    return faults


def annotation_faults(source):
    faults = []
    for node in ast.walk(ast.parse(source)):
        if isinstance(node, ast.AnnAssign) or getattr(node, "annotation", None) or getattr(node, "returns", None):
            faults.append(f"L21 an annotation in row {node.lineno}")
    return faults


def call_faults(source):
    """Keywords where none may stand, and what is to be walked at once but is kept."""
    tree = ast.parse(source)
    walked_at_once = [node.iter for node in ast.walk(tree) if isinstance(node, (ast.For, ast.comprehension))]
    for node in ast.walk(tree):
        if isinstance(node, ast.Call) and node.args:
            function = node.func
            joins = isinstance(function, ast.Attribute) and function.attr == "join"
            if joins or isinstance(function, ast.Name) and function.id in WALKERS:
                walked_at_once.append(node.args[0])
    faults = []
    for node in ast.walk(tree):
        if not isinstance(node, ast.Call):
            continue
        name = node.func.id if isinstance(node.func, ast.Name) else ""
        method = node.func.attr if isinstance(node.func, ast.Attribute) else ""
        if (name in WALKED or method in WALKED_METHODS) and node not in walked_at_once:
            faults.append(f"L23 {name or method} is kept in row {node.lineno}")
        if (name in OWN_NAMES or method in OWN_METHODS) and any(
                keyword.arg not in KEYWORDS.get(name, ()) for keyword in node.keywords):
            faults.append(f"L22 a keyword in row {node.lineno}")
    return faults


def set_faults(source):
    """Sets that are kept or walked: one stands beside a comparison or straight within `sorted` or `len`."""
    tree = ast.parse(source)
    faults = [f"L24 a set in row {node.lineno}" for node in ast.walk(tree) if isinstance(node, ast.Set)]
    beside = []
    for node in ast.walk(tree):
        if isinstance(node, ast.Compare):
            beside += [node.left] + node.comparators
        if isinstance(node, ast.Call) and isinstance(node.func, ast.Name) and node.func.id in ("sorted", "len"):
            beside += node.args
    for node in ast.walk(tree):
        if isinstance(node, ast.Call) and isinstance(node.func, ast.Name) and node.func.id in ("set", "frozenset"):
            if not any(node in ast.walk(part) for part in beside):
                faults.append(f"L24 a set in row {node.lineno}")
    return faults


def values_of(tree):
    """The names of the values that objects are given."""
    return [node.attr for node in ast.walk(tree) if isinstance(node, ast.Attribute) and isinstance(node.ctx, ast.Store)]


def package_faults(sources):
    """The faults that show between files; `sources` is a dict from a file's name without its end to its source."""
    trees = {name: ast.parse(source) for name, source in sources.items()}
    methods = [name for tree in trees.values() for name in methods_of(tree)]
    values = [name for tree in trees.values() for name in values_of(tree)]
    faults = [f"L18 {name} is a method and a value" for name in sorted(set(methods) & set(values))]
    faults += [f"L26 the value {name}" for name in values if name in VALUES_OUT and name not in VALUES_FREE]
    draws = {}
    for name, tree in trees.items():
        draws[name] = []
        for node in tree.body:
            if isinstance(node, ast.ImportFrom) and node.module != "__future__":
                source = node.module[len(PACKAGE) + 1:]
                draws[name].append(source)
                own = defined_names(sources.get(source, ""))
                faults += [f"L16 {alias.name} is not of {source}" for alias in node.names if alias.name not in own]
    return faults + [f"L16 {name} draws from itself" for name in draws if draws_from(draws, name, name)]


def defined_names(source):
    imported = [alias.asname or alias.name for node in ast.parse(source).body if isinstance(node, ast.ImportFrom)
                for alias in node.names]
    return [name for name in top_names(source) if name not in imported]


def draws_from(draws, start, end):
    """Whether one file draws from another, in however many steps."""
    seen, waiting = set(), list(draws[start])
    while waiting:
        name = waiting.pop()
        if name == end:
            return True
        if name not in seen:
            seen.add(name)
            waiting += draws.get(name, [])
    return False


FILE_RULES = (sign_faults, size_faults, word_faults, node_faults, top_faults, import_faults, name_faults, shadow_faults,
              annotation_faults, call_faults, set_faults)


def faults_of(source, methods=()):
    found = []
    for rule in FILE_RULES:
        found += rule(source)
    return found + attribute_faults(source, list(methods) + methods_of(ast.parse(source)))
