"""Tells where a file of the package leaves the small part of Python that it keeps to.

It sees the rules that can be read off a single file; what needs the whole
package (circles of imports, a name's use elsewhere) is asked in test_language.
"""

import ast
import io
import re
import tokenize

STATEMENTS = (
    ast.FunctionDef, ast.ClassDef, ast.Assign, ast.AugAssign, ast.AnnAssign, ast.If, ast.While, ast.For, ast.Return,
    ast.Break, ast.Continue, ast.Pass, ast.Raise, ast.Try, ast.Expr, ast.ImportFrom,
)
NOT_USED = (
    ast.Set, ast.SetComp, ast.DictComp, ast.GeneratorExp, ast.NamedExpr, ast.Starred, ast.Div, ast.MatMult,
    ast.Await, ast.Yield, ast.YieldFrom,
)
OWN_OF_PYTHON = set(
    "len range enumerate zip min max sum abs sorted reversed int str bool list tuple dict set frozenset isinstance ord"
    " repr any all divmod Exception ValueError TypeError KeyError IndexError LookupError ZeroDivisionError"
    " ArithmeticError OverflowError RuntimeError NotImplementedError AttributeError StopIteration".split()
)
METHODS = set(
    "append clear copy count endswith extend find get index insert isalnum isalpha isdigit islower isspace isupper"
    " items join keys ljust lower lstrip partition pop remove replace reverse rfind rjust rpartition rsplit rstrip"
    " setdefault split splitlines startswith strip update upper values zfill bit_length".split()
)
PYTHON_NAMES = set(dir(__builtins__) if not isinstance(__builtins__, dict) else __builtins__)
NEVER = set("register mro elements open input version_info with_traceback add_note format format_map".split())
NOT_AS_NAMES = set(
    "attrgetter breakpoint builtins compile copyright credits delattr dir eval exec exit gc getattr globals hasattr"
    " help id importlib license locals methodcaller os quit setattr super type vars sys __name__".split()
)
WORDS = re.compile(
    r"\b(type|typing|typing_extensions|enum|Enum|IntEnum|StrEnum|Flag|IntFlag|Generic|Protocol|ABC|ABCMeta|namedtuple"
    r"|NamedTuple|TypedDict|TYPE_CHECKING|abstractmethod)\b|dataclass|overload|contextmanager"
)
DUNDERS = ("__init__", "__eq__", "__repr__", "__str__", "__len__")
TAKEN = set("KeyError ZeroDivisionError StopIteration ValueError LookupError IndexError".split())


def is_text(node):
    return isinstance(node, ast.Expr) and isinstance(node.value, ast.Constant) and isinstance(node.value.value, str)


def is_plain(node, functions):
    if isinstance(node, ast.Constant):
        return node.value is None or isinstance(node.value, (bool, int, str))
    if isinstance(node, ast.UnaryOp) and isinstance(node.op, ast.USub):
        return isinstance(node.operand, ast.Constant) and isinstance(node.operand.value, int)
    if isinstance(node, (ast.Tuple, ast.List)):
        return all(is_plain(part, functions) for part in node.elts)
    if isinstance(node, ast.Dict):
        return all(part is not None and is_plain(part, functions) for part in node.keys + node.values)
    return isinstance(node, ast.Name) and node.id in functions


def rows(source):
    for number, row in enumerate(source.split("\n"), start=1):
        if len(row) > 120 or "\t" in row:
            yield number, "L10"
        if any(not " " <= sign <= "~" for sign in row):
            yield number, "L14"
        if WORDS.search(row):
            yield number, "L17"
    if source.count("\n") > 400:
        yield 401, "L10"


def top(tree):
    functions = set()
    bound = set()
    for place, node in enumerate(tree.body):
        names = []
        if isinstance(node, ast.FunctionDef):
            functions.add(node.name)
            names = [node.name]
        elif isinstance(node, ast.ClassDef):
            names = [node.name]
        elif isinstance(node, ast.ImportFrom):
            names = [alias.asname or alias.name for alias in node.names]
            if node.level or node.module.split(".")[0] != "glazework" or "*" in names:
                yield node.lineno, "L2"
        elif isinstance(node, ast.Assign) and isinstance(node.targets[0], ast.Name):
            names = [node.targets[0].id]
            if not is_plain(node.value, functions):
                yield node.lineno, "L3"
            if isinstance(node.value, (ast.List, ast.Dict)):
                if any(isinstance(part, (ast.List, ast.Dict)) for part in list(ast.walk(node.value))[1:]):
                    yield node.lineno, "L15"
        elif not (place == 0 and is_text(node)):
            yield node.lineno, "L3"
        for name in names:
            if name in bound:
                yield node.lineno, "L15"
            bound.add(name)


def locals_of(function):
    arguments = function.args
    names = [argument.arg for argument in arguments.posonlyargs + arguments.args]
    for node in ast.walk(function):
        if isinstance(node, ast.Name) and isinstance(node.ctx, ast.Store):
            names.append(node.id)
        if isinstance(node, ast.ExceptHandler) and node.name:
            names.append(node.name)
    return names


def defs(tree):
    taken = set(PYTHON_NAMES)
    for node in ast.walk(tree):
        if isinstance(node, ast.ClassDef):
            taken.add(node.name)
        if isinstance(node, ast.ImportFrom):
            taken.update(alias.asname or alias.name for alias in node.names)
    for node in ast.walk(tree):
        if isinstance(node, (ast.FunctionDef, ast.Lambda)):
            arguments = node.args
            if arguments.vararg or arguments.kwarg or arguments.kwonlyargs or arguments.posonlyargs:
                yield node.lineno, "L4"
            if any(not is_plain(default, ()) for default in arguments.defaults):
                yield node.lineno, "L4"
            if taken.intersection(locals_of(node)):
                yield node.lineno, "L15"
        if isinstance(node, (ast.FunctionDef, ast.ClassDef)) and node.decorator_list:
            yield node.lineno, "L4"
        if isinstance(node, ast.FunctionDef) and node.end_lineno - node.lineno >= 40:
            yield node.lineno, "L10"
        if isinstance(node, ast.ClassDef):
            if len(node.bases) > 1 or node.keywords or node not in tree.body:
                yield node.lineno, "L5"
            if any(not isinstance(part, (ast.FunctionDef, ast.Pass)) for part in node.body):
                yield node.lineno, "L5"
            methods = [part.name for part in node.body if isinstance(part, ast.FunctionDef)]
            if len(set(methods)) < len(methods):
                yield node.lineno, "L18"


def statements(tree):
    for node in ast.walk(tree):
        if isinstance(node, ast.stmt) and not isinstance(node, STATEMENTS):
            yield node.lineno, "L6"
        if isinstance(node, ast.ImportFrom) and node not in tree.body:
            yield node.lineno, "L2"
        if isinstance(node, ast.Expr) and not isinstance(node.value, ast.Call) and node is not tree.body[0]:
            yield node.lineno, "L6"
        if isinstance(node, ast.Assign):
            if len(node.targets) > 1 or isinstance(node.targets[0], (ast.Tuple, ast.List)):
                yield node.lineno, "L6"
        if isinstance(node, (ast.For, ast.While)) and node.orelse:
            yield node.lineno, "L6"
        if isinstance(node, ast.Try) and node.finalbody:
            yield node.lineno, "L6"
        if isinstance(node, ast.ExceptHandler):
            names = {part.id for part in ast.walk(node.type) if isinstance(part, ast.Name)} if node.type else set()
            if not names or (names & OWN_OF_PYTHON) - TAKEN:
                yield node.lineno, "L19"
        if isinstance(node, ast.Raise) and not isinstance(node.exc, ast.Call):
            yield node.lineno, "L19"


def expressions(tree):
    for node in ast.walk(tree):
        number = getattr(node, "lineno", 0)
        if isinstance(node, NOT_USED):
            yield number, "L7"
        if isinstance(node, ast.Constant) and not (node.value is None or isinstance(node.value, (bool, int, str))):
            yield number, "L7"
        if isinstance(node, ast.ListComp) and (len(node.generators) > 1 or len(node.generators[0].ifs) > 1):
            yield number, "L7"
        if isinstance(node, ast.FormattedValue) and (not isinstance(node.value, ast.Name) or node.format_spec):
            yield number, "L7"
        if isinstance(node, ast.Compare):
            sides = [node.left] + node.comparators
            for place, sign in enumerate(node.ops):
                known = [part.value for part in sides[place:place + 2] if isinstance(part, ast.Constant)]
                if isinstance(sign, (ast.Is, ast.IsNot)) and not any(value in (None, True, False) for value in known):
                    yield number, "L20"
        if isinstance(node, ast.BinOp) and isinstance(node.op, ast.Pow):
            if not isinstance(node.right, ast.Constant) or not 0 <= node.right.value <= 64:
                yield number, "L27"
        if isinstance(node, ast.Constant) and isinstance(node.value, str) and "%" in node.value:
            yield number, "L27"


def names_used(tree):
    functions = {node.name for node in ast.walk(tree) if isinstance(node, (ast.FunctionDef, ast.ClassDef))}
    for node in ast.walk(tree):
        if isinstance(node, ast.Name):
            name = node.id
            if name in NEVER or name in NOT_AS_NAMES:
                yield node.lineno, "L17"
            if name in PYTHON_NAMES and name not in OWN_OF_PYTHON:
                yield node.lineno, "L8"
        elif isinstance(node, ast.Attribute):
            name = node.attr
            if name in NEVER:
                yield node.lineno, "L17"
        elif isinstance(node, (ast.FunctionDef, ast.ClassDef)):
            name = node.name
            if name in NEVER or (name in PYTHON_NAMES and node in tree.body):
                yield node.lineno, "L17"
        elif isinstance(node, ast.arg):
            name = node.arg
        else:
            continue
        if not re.fullmatch("[A-Za-z][A-Za-z0-9_]*", name) and name not in DUNDERS:
            yield getattr(node, "lineno", 0), "L12"
    for node in ast.walk(tree):
        if isinstance(node, ast.Attribute) and isinstance(node.value, ast.Constant):
            if node.attr not in METHODS or node.attr in functions:
                yield node.lineno, "L25"


def calls(tree):
    walked = ("zip", "enumerate", "reversed", "range")
    takers = ("list", "tuple", "dict", "sorted", "sum", "any", "all", "enumerate", "zip", "min", "max")
    held = set()
    for node in ast.walk(tree):
        if isinstance(node, (ast.For, ast.comprehension)):
            held.add(node.iter)
        if isinstance(node, ast.Call) and isinstance(node.func, ast.Name) and node.func.id in takers:
            held.update(node.args[:1])
        if isinstance(node, ast.Call) and isinstance(node.func, ast.Attribute) and node.func.attr == "join":
            held.update(node.args)
    for node in ast.walk(tree):
        if isinstance(node, ast.Call) and node not in held:
            name = node.func.id if isinstance(node.func, ast.Name) else getattr(node.func, "attr", "")
            if name in walked or name in ("items", "keys", "values"):
                yield node.lineno, "L23"
    called = {node.func for node in ast.walk(tree) if isinstance(node, ast.Call)}
    beside = set()
    for node in ast.walk(tree):
        if isinstance(node, ast.Call) and isinstance(node.func, ast.Name) and node.func.id == "isinstance":
            for argument in node.args[1:]:
                beside.update(ast.walk(argument))
        if isinstance(node, ast.keyword) and node.arg == "key":
            beside.add(node.value)
        if isinstance(node, ast.ClassDef):
            beside.update(node.bases)
        if isinstance(node, ast.ExceptHandler) and node.type:
            beside.update(ast.walk(node.type))
    for node in ast.walk(tree):
        if isinstance(node, ast.Name) and node.id in OWN_OF_PYTHON and node not in called and node not in beside:
            yield node.lineno, "L22"


def escapes(source):
    for token in tokenize.generate_tokens(io.StringIO(source).readline):
        if token.type == tokenize.STRING and re.search(r"\\[^nt\\'\"]", token.string.replace("\\\\", "")):
            yield token.start[0], "L27"
        if token.type == tokenize.NUMBER and len(token.string) > 900:
            yield token.start[0], "L27"


def faults(source):
    """A rising list of tuples (row, rule) where a file's text leaves the rules."""
    tree = ast.parse(source)
    told = list(rows(source)) + list(escapes(source))
    for look in (top, defs, statements, expressions, names_used, calls):
        told.extend(look(tree))
    return sorted(set(told))
