"""Finds what in the package's files is outside LANGUAGE.md.

It is narrower than the rules where the package has no need of what they allow (classes, errors,
lambdas, f-strings, sets, annotations): those are refused outright, which keeps L5, L13, L18, L19,
L21, L24, L26 and L28. Widen it together with the code that needs more.
"""

import ast
import builtins
import re

PACKAGE = "gaugeblocks"
STATEMENTS = (ast.Assign, ast.AugAssign, ast.If, ast.While, ast.For, ast.Return, ast.Break, ast.Continue,
              ast.Pass, ast.Expr, ast.FunctionDef, ast.ImportFrom)
EXPRESSIONS = (ast.Constant, ast.Name, ast.BinOp, ast.UnaryOp, ast.BoolOp, ast.Compare, ast.IfExp, ast.Call,
               ast.Attribute, ast.Subscript, ast.Slice, ast.List, ast.Tuple, ast.Dict, ast.ListComp)
OPERATORS = (ast.Add, ast.Sub, ast.Mult, ast.FloorDiv, ast.Mod, ast.Pow, ast.LShift, ast.RShift, ast.BitAnd,
             ast.BitOr, ast.BitXor)
CALLED_BUILTINS = set("""len range enumerate zip min max sum abs sorted reversed int str bool list tuple dict
    isinstance ord repr any all divmod""".split())
METHODS = set("""append clear copy count endswith extend find get index insert isalnum isalpha isdigit islower
    isspace isupper items join keys ljust lower lstrip partition pop remove replace reverse rfind rjust
    rpartition rsplit rstrip setdefault split splitlines startswith strip update upper values zfill
    bit_length""".split())
CHANGES = set("append clear extend insert pop remove reverse setdefault update".split())
WALKED = set("zip enumerate reversed range items keys values".split())
WALKERS = set("list tuple dict sorted sum any all enumerate zip min max join".split())
UNUSED_NAMES = set("""register mro elements open input version_info with_traceback add_note attrgetter breakpoint
    builtins compile copyright credits delattr dir eval exec exit gc getattr globals hasattr help id importlib
    license locals methodcaller os quit setattr super vars sys chr set frozenset print""".split())
UNUSED_WORDS = re.compile(r"\b(type|typing|typing_extensions|enum|Enum|IntEnum|StrEnum|Flag|IntFlag|Generic|"
                          r"Protocol|ABC|ABCMeta|namedtuple|NamedTuple|TypedDict|TYPE_CHECKING|abstractmethod)\b"
                          r"|dataclass|overload|contextmanager")
FILE_NAME = re.compile(r"(__init__|[a-z][a-z0-9_]*)\.py")
UNUSED_FILES = set("test tests testing site conftest sitecustomize usercustomize".split())


def name_faults(file_name):
    """Faults of a file's name (L1, L14)."""
    stem = file_name[:-3]
    if not FILE_NAME.fullmatch(file_name):
        return [f"L1 {file_name}: no plain lower-case name of a .py file"]
    if stem == "__init__":
        return []
    if stem in UNUSED_FILES or stem.startswith("test_") or hasattr(builtins, stem) or UNUSED_WORDS.fullmatch(stem):
        return [f"L14 {file_name}: a name that is not used"]
    return []


def text_faults(source):
    """Faults seen in the file's signs and lines (L10, L14, L17, L27)."""
    faults = []
    if len(source.splitlines()) > 400:
        faults.append("L10 more than 400 lines")
    for number, line in enumerate(source.split("\n"), start=1):
        if len(line) > 120:
            faults.append(f"L10 line {number}: more than 120 characters")
        if any(not " " <= sign <= "~" for sign in line):
            faults.append(f"L14 line {number}: a sign outside the blank to ~")
        if UNUSED_WORDS.search(line):
            faults.append(f"L17 line {number}: a word that stands nowhere")
        if re.search(r"\\[^nt\\'\"]", line):
            faults.append(f"L27 line {number}: an escape that is not used")
    return faults


def is_plain(value):
    if isinstance(value, ast.UnaryOp) and isinstance(value.op, ast.USub):
        return isinstance(value.operand, ast.Constant)
    if isinstance(value, (ast.List, ast.Tuple)):
        return all(is_plain(part) for part in value.elts)
    if isinstance(value, ast.Dict):
        return all(is_plain(part) for part in value.keys + value.values)
    return isinstance(value, (ast.Constant, ast.Name))


def top_faults(tree):
    """Faults of what stands at the file's top (L2, L3, L15, L16)."""
    faults = []
    bound = []
    for place, node in enumerate(tree.body):
        if isinstance(node, ast.FunctionDef):
            bound.append(node.name)
        elif isinstance(node, ast.ImportFrom):
            bound += [alias.asname or alias.name for alias in node.names]
            if not (node.module or "").startswith(PACKAGE + ".") or node.level or node.names[0].name == "*":
                faults.append(f"L2 line {node.lineno}: an import of something else than the package's own names")
        elif isinstance(node, ast.Assign) and is_plain(node.value):
            bound += [target.id for target in node.targets if isinstance(target, ast.Name)]
        elif not (place == 0 and ast.get_docstring(tree) is not None):
            faults.append(f"L3 line {node.lineno}: something that doesn't stand at a file's top")
    faults += [f"L15 {name}: bound twice at the top" for name in sorted(set(bound)) if bound.count(name) > 1]
    return faults


def shadow_faults(tree):
    """Parameters and locals that are called like an import of the file (L15)."""
    imported = {alias.asname or alias.name for node in tree.body if isinstance(node, ast.ImportFrom)
                for alias in node.names}
    local = {node.arg for node in ast.walk(tree) if isinstance(node, ast.arg)}
    local |= {node.id for node in ast.walk(tree) if isinstance(node, ast.Name) and isinstance(node.ctx, ast.Store)}
    return [f"L15 {name}: called like an import of the file" for name in sorted(imported & local)]


def is_docstring(node, parent):
    holds = isinstance(parent, (ast.Module, ast.FunctionDef)) and parent.body[0] is node
    return holds and isinstance(node.value, ast.Constant) and isinstance(node.value.value, str)


def statement_faults(node, parent):
    if isinstance(node, ast.Import):
        return ["L2 an import of a whole file"]
    if not isinstance(node, STATEMENTS):
        return ["L6 a statement that is not used"]
    if isinstance(node, ast.ImportFrom) and not isinstance(parent, ast.Module):
        return ["L2 an import below the file's top"]
    if isinstance(node, ast.Assign) and len(node.targets) != 1:
        return ["L6 more than one target"]
    if isinstance(node, (ast.For, ast.While)) and node.orelse:
        return ["L6 else behind a loop"]
    if isinstance(node, ast.For) and isinstance(node.iter, ast.Name) and changes(node, node.iter.id):
        return ["L23 a loop changes what it walks"]
    if isinstance(node, ast.Expr) and not isinstance(node.value, ast.Call) and not is_docstring(node, parent):
        return ["L6 an expression by itself that is no call"]
    if isinstance(node, ast.FunctionDef):
        return function_faults(node)
    return []


def changes(loop, name):
    for node in ast.walk(loop):
        if isinstance(node, ast.Attribute) and node.attr in CHANGES and getattr(node.value, "id", None) == name:
            return True
        if isinstance(node, ast.Subscript) and isinstance(node.ctx, ast.Store) and getattr(node.value, "id", 0) == name:
            return True
    return False


def function_faults(node):
    faults = []
    given = node.args
    if given.vararg or given.kwarg or given.kwonlyargs or given.posonlyargs:
        faults.append("L4 parameters that aren't plain")
    if node.decorator_list:
        faults.append("L4 a decorator")
    if node.returns or any(argument.annotation for argument in given.args):
        faults.append("L21 an annotation")
    if not all(is_plain(default) for default in given.defaults):
        faults.append("L4 a default that isn't plain")
    if node.end_lineno - node.lineno >= 40:
        faults.append("L10 a function of more than 40 lines")
    return faults


def expression_faults(node, parent):
    if not isinstance(node, EXPRESSIONS):
        return ["L7 an expression that is not used"]
    if isinstance(node, ast.Constant):
        return constant_faults(node)
    if isinstance(node, ast.BinOp):
        return operator_faults(node)
    if isinstance(node, ast.Compare) and any(isinstance(op, (ast.Is, ast.IsNot)) for op in node.ops):
        kept = [side for side in [node.left] + node.comparators if getattr(side, "value", 0) in (None, True, False)]
        return [] if any(isinstance(side, ast.Constant) for side in kept) else ["L20 is"]
    if isinstance(node, ast.ListComp) and (len(node.generators) > 1 or len(node.generators[0].ifs) > 1):
        return ["L7 a comprehension of more than one for or if"]
    if isinstance(node, ast.Attribute):
        return attribute_faults(node, parent)
    if isinstance(node, ast.Call):
        return call_faults(node, parent)
    if isinstance(node, ast.Name):
        return use_faults(node, parent)
    return []


def constant_faults(node):
    if node.value is not None and not isinstance(node.value, (int, str)):
        return ["L7 a value that is no whole number or text"]
    if isinstance(node.value, str) and "%" in node.value:
        return ["L27 the sign of the remainder within a text"]
    return []


def operator_faults(node):
    if not isinstance(node.op, OPERATORS):
        return ["L7 an operator that is not used"]
    if isinstance(node.op, ast.Pow):
        exponent = getattr(node.right, "value", None)
        if not isinstance(exponent, int) or exponent > 64:
            return ["L27 an exponent that isn't written"]
    return []


def attribute_faults(node, parent):
    if node.attr not in METHODS:
        return ["L25 a method that is not used"]
    if not (isinstance(parent, ast.Call) and parent.func is node):
        return ["L25 a method that isn't called where it stands"]
    return []


def called_name(node):
    return getattr(node.func, "id", None) or getattr(node.func, "attr", None)


def call_faults(node, parent):
    if any(isinstance(argument, ast.Starred) for argument in node.args):
        return ["L7 a star"]
    if called_name(node) in WALKED:
        walked = isinstance(parent, (ast.For, ast.comprehension)) and parent.iter is node
        given = isinstance(parent, ast.Call) and called_name(parent) in WALKERS and node in parent.args
        return [] if walked or given else ["L23 not walked on the spot"]
    return []


def use_faults(node, parent):
    if node.id in UNUSED_NAMES:
        return ["L17 a name that is not used"]
    if node.id.startswith("_") or not node.id.isascii():
        return ["L12 a name that isn't plain"]
    if not hasattr(builtins, node.id):
        return []
    if node.id not in CALLED_BUILTINS:
        return ["L8 a name of Python's own that is not used"]
    if isinstance(node.ctx, ast.Store):
        return ["L8 a name of Python's own with another meaning"]
    called = isinstance(parent, ast.Call) and parent.func is node
    stands = isinstance(parent, (ast.keyword, ast.Tuple)) or (isinstance(parent, ast.Call) and len(parent.args) == 2)
    return [] if called or stands else ["L22 a name of Python's own that isn't called"]


def node_faults(node, parent):
    if isinstance(node, ast.stmt):
        return statement_faults(node, parent)
    if isinstance(node, ast.expr):
        return expression_faults(node, parent)
    if isinstance(node, ast.arg) and (hasattr(builtins, node.arg) or node.arg.startswith("_")):
        return ["L15 a parameter called like a name of Python's own, or no plain name"]
    return []


def tree_faults(tree):
    faults = []
    for parent in ast.walk(tree):
        for node in ast.iter_child_nodes(parent):
            line = getattr(node, "lineno", 0)
            faults += [f"{fault} (line {line})" for fault in node_faults(node, parent)]
            if isinstance(node, ast.FunctionDef) and (hasattr(builtins, node.name) or node.name.startswith("_")):
                faults.append(f"L12 {node.name}: no plain name of a function (line {line})")
    return faults


def source_faults(source):
    tree = ast.parse(source)
    return text_faults(source) + top_faults(tree) + shadow_faults(tree) + tree_faults(tree)


def defined_names(source):
    """The names that a file itself defines at its top."""
    names = []
    for node in ast.parse(source).body:
        if isinstance(node, ast.FunctionDef):
            names.append(node.name)
        if isinstance(node, ast.Assign):
            names += [target.id for target in node.targets if isinstance(target, ast.Name)]
    return names


def drawn(source):
    """The pairs of a file's stem and a name that a file imports."""
    rows = [node for node in ast.parse(source).body if isinstance(node, ast.ImportFrom)]
    return [(node.module.split(".")[-1], alias.name) for node in rows for alias in node.names]


def import_faults(sources):
    """Faults between the files, a dict of sources by stem: names not defined there, rings (L16)."""
    faults = []
    for stem, source in sources.items():
        for other, name in drawn(source):
            if name not in defined_names(sources.get(other, "")):
                faults.append(f"L16 {stem}: {name} is not defined in {other}")
    draws = {stem: {other for other, name in drawn(source)} for stem, source in sources.items()}
    for stem in draws:
        reached = set(draws[stem])
        for step in draws:
            reached |= {further for other in reached for further in draws.get(other, ())}
        if stem in reached:
            faults.append(f"L16 {stem}: it draws from itself, in however many steps")
    return faults
