"""A reader of the package's files by LANGUAGE.md: told is each breach, with its rule, file and line.

It asks for the rules as far as a look at one file's tree, or at all of them together, can tell.
"""

import ast
import builtins
import io
import re
import tokenize

PACKAGE = "hourlanes"
BUILTINS = set(
    "len range enumerate zip min max sum abs sorted reversed int str bool bytes list tuple dict set frozenset"
    " isinstance ord repr any all divmod NotImplemented super".split())
OWN_ERRORS = set(
    "Exception ValueError TypeError KeyError IndexError LookupError ZeroDivisionError ArithmeticError"
    " OverflowError RuntimeError NotImplementedError AttributeError StopIteration".split())
METHODS = set(
    "append clear copy count endswith extend find get index insert isalnum isalpha isdigit islower isspace isupper"
    " items join keys ljust lower lstrip partition pop remove replace reverse rfind rjust rpartition rsplit rstrip"
    " setdefault split splitlines startswith strip update upper values zfill bit_length title capitalize swapcase"
    " casefold center expandtabs removeprefix removesuffix rindex isascii isdecimal isnumeric istitle isidentifier"
    " isprintable add discard".split())
MAY_BE_ATTRIBUTES = set("count index title find get join lower upper split strip copy add".split())
HELD = set(dir(str) + dir(int) + dir(list) + dir(dict) + dir(set) + dir(bytes) + dir(tuple))
DUNDERS = set(
    "__init__ __eq__ __repr__ __str__ __len__ __enter__ __exit__ __call__ __iter__ __lt__ __le__ __gt__ __ge__"
    " __ne__".split())
NEVER_NAMED = set("register mro elements open input version_info with_traceback add_note".split())
NOT_NAMED = NEVER_NAMED | set(
    "attrgetter breakpoint builtins compile copyright credits delattr dir eval exec exit gc getattr globals hasattr"
    " help id importlib license locals methodcaller os quit setattr type vars sys".split())
BARRED = re.compile(
    r"\b(type|typing|typing_extensions|enum|Enum|IntEnum|StrEnum|Flag|IntFlag|Generic|Protocol|ABC|ABCMeta"
    r"|namedtuple|NamedTuple|TypedDict|TYPE_CHECKING|abstractmethod)\b|dataclass|overload|contextmanager")
STATEMENTS = (
    ast.Assign, ast.AugAssign, ast.AnnAssign, ast.If, ast.While, ast.For, ast.Return, ast.Break, ast.Continue,
    ast.Pass, ast.Raise, ast.Assert, ast.Delete, ast.Nonlocal, ast.Match, ast.With, ast.Try, ast.Expr,
    ast.FunctionDef, ast.ClassDef, ast.ImportFrom)
FED_BY_LISTS = set("any all min max sum sorted".split())
FED_AT_ONCE = set("list tuple dict sorted sum any all enumerate zip bytes min max".split())
READ_AT_ONCE = set("zip enumerate reversed range".split())
VIEWS = set("items keys values".split())
BUILTIN_KEYWORDS = {"sorted": {"key", "reverse"}, "min": {"key", "default"}, "max": {"key", "default"},
                    "sum": {"start"}, "enumerate": {"start"}, "zip": {"strict"}}


def breaches(sources):
    """What breaks a rule in these files, a dict from their names to their texts."""
    trees = {name: ast.parse(text) for name, text in sources.items()}
    for tree in trees.values():
        add_parents(tree)
    own = Own(trees)
    told = []
    for name in sorted(sources):
        for rule, line in file_breaches(name, sources[name], trees[name], own):
            told.append((rule, name, line))
    told += [("L16", name, 1) for name in ring_of_imports(trees)]
    return told


def add_parents(tree):
    for node in ast.walk(tree):
        for child in ast.iter_child_nodes(node):
            child.above = node


class Own:
    """The names that the package defines: its classes, methods, attributes, and each file's own."""

    def __init__(self, trees):
        self.classes, self.methods, self.attributes, self.by_file = {}, set(), set(), {}
        for file, tree in trees.items():
            self.by_file[file] = set(top_names(tree))
            for node in ast.walk(tree):
                if isinstance(node, ast.ClassDef):
                    self.classes[node.name] = [ast.unparse(base) for base in node.bases]
                    self.methods |= {each.name for each in node.body if isinstance(each, ast.FunctionDef)}
                if isinstance(node, ast.Attribute) and isinstance(node.ctx, ast.Store):
                    self.attributes.add(node.attr)

    def is_error(self, name):
        return name in OWN_ERRORS or any(self.is_error(base) for base in self.classes.get(name, []))


def top_names(tree):
    for node in tree.body:
        if isinstance(node, (ast.FunctionDef, ast.ClassDef)):
            yield node.name
        elif isinstance(node, ast.Assign):
            yield from [target.id for target in node.targets if isinstance(target, ast.Name)]


def file_breaches(name, text, tree, own):
    yield from sign_breaches(name, text)
    yield from top_breaches(tree)
    imported = {each.asname or each.name for node in tree.body if isinstance(node, ast.ImportFrom)
                for each in node.names}
    classes = {node.name for node in tree.body if isinstance(node, ast.ClassDef)}
    used = {node.id for node in ast.walk(tree) if isinstance(node, ast.Name)}
    yield from [("L2", 1) for each in imported - used]
    for node in ast.walk(tree):
        line = getattr(node, "lineno", 1)
        for asked in [import_rules, statement_rules, name_rules, function_rules, class_rules, error_rules,
                      value_rules, call_rules, at_once_rules]:
            for rule in asked(node, own):
                yield (rule, line)
        if isinstance(node, (ast.Name, ast.arg)) and not isinstance(getattr(node, "ctx", None), ast.Load):
            if name_of(node) in imported | classes and inside_function(node):
                yield ("L15", line)


def sign_breaches(name, text):
    if not re.fullmatch(r"[a-z0-9_]+\.py", name):
        yield ("L1", 1)
    lines = text.split("\n")
    if len(lines) > 401:
        yield ("L10", 401)
    for number, line in enumerate(lines, 1):
        if len(line) > 120:
            yield ("L10", number)
        if not re.fullmatch(r"[ -~]*", line):
            yield ("L14", number)
        if BARRED.search(line):
            yield ("L17", number)
    for token in tokenize.generate_tokens(io.StringIO(text).readline):
        if token.type == tokenize.STRING and re.search(r"\\[^nt\\'\"]|%", token.string):
            yield ("L27", token.start[0])


def top_breaches(tree):
    """L3 and L15: what stands at module level."""
    bound = []
    for at, node in enumerate(tree.body):
        if isinstance(node, ast.ImportFrom):
            bound += [each.asname or each.name for each in node.names]
            if any(not isinstance(ahead, (ast.ImportFrom, ast.Expr)) for ahead in tree.body[:at]):
                yield ("L2", node.lineno)
        elif isinstance(node, (ast.FunctionDef, ast.ClassDef)):
            bound.append(node.name)
        elif isinstance(node, ast.Assign):
            bound += [ast.unparse(target) for target in node.targets]
            if any(isinstance(each, (ast.Call, ast.ListComp, ast.DictComp, ast.Set)) for each in ast.walk(node)):
                yield ("L3", node.lineno)
        elif not (isinstance(node, ast.Expr) and isinstance(node.value, ast.Constant) and at == 0):
            yield ("L3", node.lineno)
    yield from [("L15", 1) for name in set(bound) if bound.count(name) > 1]


def name_of(node):
    return node.id if isinstance(node, ast.Name) else node.arg


def inside_function(node):
    while hasattr(node, "above"):
        node = node.above
        if isinstance(node, (ast.FunctionDef, ast.Lambda)):
            return True
    return False


def import_rules(node, own):
    if isinstance(node, ast.Import):
        yield "L2"
    if isinstance(node, ast.ImportFrom):
        match = re.fullmatch(PACKAGE + r"\.([a-z_0-9]+)", node.module or "")
        if node.level or not match:
            yield "L2"
        elif any(each.name not in own.by_file.get(match[1] + ".py", ()) for each in node.names):
            yield "L16"


def ring_of_imports(trees):
    """The files that import themselves through others."""
    nexts = {name: {node.module.split(".")[-1] + ".py" for node in ast.walk(tree)
                    if isinstance(node, ast.ImportFrom) and node.module} for name, tree in trees.items()}
    for name in nexts:
        reached, ahead = set(), set(nexts[name])
        while ahead:
            each = ahead.pop()
            reached.add(each)
            ahead |= nexts.get(each, set()) - reached
        if name in reached:
            yield name


def statement_rules(node, own):
    if isinstance(node, ast.stmt) and not isinstance(node, STATEMENTS):
        yield "L6"
    if isinstance(node, ast.Expr) and not isinstance(node.value, (ast.Call, ast.Yield, ast.YieldFrom)):
        if not (isinstance(node.value, ast.Constant) and isinstance(node.value.value, str)):
            yield "L6"
    if isinstance(node, (ast.Await, ast.AsyncFor)):
        yield "L6"
    if isinstance(node, ast.For) and changed_in(node):
        yield "L23"


def changed_in(loop):
    """Whether a loop changes what it iterates over, as far as its names tell."""
    over = loop.iter
    while isinstance(over, ast.Call) and over.args and name_in(over.func) in READ_AT_ONCE:
        over = over.args[0]
    if isinstance(over, ast.Call) and isinstance(over.func, ast.Attribute) and over.func.attr in VIEWS:
        over = over.func.value
    if not isinstance(over, (ast.Name, ast.Attribute)):
        return False
    changes = "append clear extend insert pop remove reverse setdefault update add discard".split()
    for node in [each for row in loop.body for each in ast.walk(row)]:
        if isinstance(node, ast.Subscript) and not isinstance(node.ctx, ast.Load):
            if ast.unparse(node.value) == ast.unparse(over):
                return True
        if isinstance(node, ast.Call) and isinstance(node.func, ast.Attribute) and node.func.attr in changes:
            if ast.unparse(node.func.value) == ast.unparse(over):
                return True
    return False


def name_rules(node, own):
    if isinstance(node, ast.Name):
        if node.id in dir(builtins) and node.id not in BUILTINS | OWN_ERRORS:
            yield "L8"
        if not isinstance(node.ctx, ast.Load) and node.id in dir(builtins):
            yield "L15"
    if isinstance(node, ast.arg) and node.arg in dir(builtins):
        yield "L15"
    for name in names_at(node):
        if name.startswith("_") and name not in DUNDERS or not name.isascii():
            yield "L12"
        if name in (NEVER_NAMED if isinstance(node, (ast.Attribute, ast.keyword)) else NOT_NAMED):
            yield "L17"
    if isinstance(node, ast.Attribute) and isinstance(node.ctx, ast.Store):
        if node.attr in own.methods:
            yield "L18"
        if node.attr in HELD - MAY_BE_ATTRIBUTES or node.attr in ("args", "format"):
            yield "L26"
    if isinstance(node, ast.Attribute) and not (isinstance(node.above, ast.Call) and node.above.func is node):
        if node.attr not in own.attributes:
            yield "L18"


def names_at(node):
    if isinstance(node, (ast.Name, ast.arg)):
        return [name_of(node)]
    if isinstance(node, (ast.FunctionDef, ast.ClassDef)):
        return [node.name]
    if isinstance(node, ast.Attribute):
        return [node.attr]
    return [node.arg] if isinstance(node, ast.keyword) and node.arg else []


def function_rules(node, own):
    if not isinstance(node, ast.FunctionDef):
        return
    if node.end_lineno - node.lineno + 1 > 40:
        yield "L10"
    if node.args.posonlyargs or node.decorator_list and not isinstance(node.above, ast.ClassDef):
        yield "L4"
    if any(not isinstance(each, (ast.Constant, ast.Name, ast.UnaryOp, ast.Tuple, ast.BinOp))
           for each in node.args.defaults):
        yield "L4"
    returned = [each.value for each in ast.walk(node) if isinstance(each, ast.Return)]
    if node.name == "__init__" and any(value is not None for value in returned):
        yield "L28"
    if node.name == "__len__" and not all(is_call_of(value, {"len"}) or isinstance(value, ast.Constant)
                                          for value in returned):
        yield "L28"
    caught = [each.name for each in ast.walk(node) if isinstance(each, ast.ExceptHandler) and each.name]
    if len(caught) != len(set(caught)):
        yield "L19"
    if node.name in ("__eq__", "__repr__", "__str__", "__len__"):
        if any(isinstance(each, (ast.Assign, ast.AugAssign, ast.Delete)) for each in ast.walk(node)):
            yield "L28"
        if node.name != "__eq__" and not isinstance(node.body[-1], ast.Return):
            yield "L28"


def class_rules(node, own):
    if not isinstance(node, ast.ClassDef):
        return
    if node.decorator_list or not isinstance(node.above, ast.Module):
        yield "L5"
    names = [each.name for each in node.body if isinstance(each, ast.FunctionDef)]
    if len(names) != len(set(names)):
        yield "L18"
    if any(name.startswith("__") and name not in DUNDERS for name in names):
        yield "L5"
    if any(name in HELD - METHODS - DUNDERS for name in names):
        yield "L26"
    if any(name not in own.classes and name not in OWN_ERRORS for name in own.classes[node.name]):
        yield "L5"


def error_rules(node, own):
    if isinstance(node, ast.ExceptHandler):
        named = node.type.elts if isinstance(node.type, ast.Tuple) else [node.type]
        for each in named:
            name = each.id if isinstance(each, ast.Name) else ""
            if name not in own.classes and name not in ("KeyError", "ZeroDivisionError") or not own.is_error(name):
                yield "L19"
    if isinstance(node, ast.Raise) and node.exc is not None:
        call = node.exc
        if not (isinstance(call, ast.Call) and isinstance(call.func, ast.Name) and own.is_error(call.func.id)):
            yield "L19"


def value_rules(node, own):
    if isinstance(node, ast.Constant) and isinstance(node.value, (float, complex)) or isinstance(node, ast.Div):
        yield "L7"
    if isinstance(node, ast.Constant) and isinstance(node.value, str) and "%" in node.value:
        yield "L27"
    if isinstance(node, ast.BinOp) and isinstance(node.op, ast.Pow):
        if not (isinstance(node.right, ast.Constant) and 0 <= node.right.value <= 64):
            yield "L27"
    if isinstance(node, ast.Compare):
        for sign, right in zip(node.ops, node.comparators):
            if isinstance(sign, (ast.Is, ast.IsNot)):
                if ast.unparse(right) not in ("None", "True", "False"):
                    yield "L20"
    if isinstance(node, (ast.ListComp, ast.DictComp, ast.SetComp)) and not inside_function(node):
        yield "L7"
    if isinstance(node, ast.GeneratorExp) and name_in(getattr(node.above, "func", None)) not in ("list", "tuple"):
        yield "L7"
    if isinstance(node, (ast.SetComp, ast.Set)) or is_call_of(node, {"set"}):
        if not isinstance(node.above, (ast.Compare, ast.Assign)) and not is_call_of(node.above, {"sorted", "len"}):
            yield "L24"
    if is_call_of(node, {"frozenset"}) or isinstance(node, ast.Call) and ends_in(node, "sort"):
        yield "L25"


def name_in(func):
    return func.id if isinstance(func, ast.Name) else ""


def is_call_of(node, names):
    return isinstance(node, ast.Call) and name_in(node.func) in names


def ends_in(call, name):
    return isinstance(call.func, ast.Attribute) and call.func.attr == name


def call_rules(node, own):
    if isinstance(node, ast.Lambda):
        yield from lambda_rules(node)
    if not isinstance(node, ast.Call):
        return
    if isinstance(node.func, (ast.Subscript, ast.Constant)):
        yield "L3"
    for each in node.args:
        if isinstance(each, ast.Starred) and not isinstance(each.value, (ast.Name, ast.Attribute, ast.List, ast.Tuple)):
            yield "L7"
    name = name_in(node.func)
    given = {each.arg for each in node.keywords}
    if name in BUILTINS and given - BUILTIN_KEYWORDS.get(name, set()):
        yield "L22"
    if name in OWN_ERRORS and given:
        yield "L22"
    if name in FED_BY_LISTS and any(isinstance(each, ast.GeneratorExp) for each in node.args):
        yield "L7"
    if isinstance(node.func, ast.Attribute):
        if node.func.attr not in METHODS | own.methods | own.attributes:
            yield "L25"
        if node.func.attr in METHODS and given:
            yield "L25"


def lambda_rules(node):
    if node.args.posonlyargs or node.args.kwonlyargs or node.args.vararg or node.args.kwarg:
        yield "L4"
    top = node
    while hasattr(top, "above"):
        top = top.above
    beside = [each for each in ast.walk(top) if isinstance(each, ast.Lambda) and each.lineno == node.lineno]
    told = [ast.unparse(each.args).split("=")[0] for each in beside]
    if len(told) != len(set(told)):
        yield "L13"


def at_once_rules(node, own):
    view = isinstance(node, ast.Call) and isinstance(node.func, ast.Attribute) and node.func.attr in VIEWS
    if not view and not is_call_of(node, READ_AT_ONCE):
        return
    above = node.above
    in_loop = isinstance(above, (ast.For, ast.comprehension)) and above.iter is node
    fed = isinstance(above, ast.Call) and (name_in(above.func) in FED_AT_ONCE or ends_in(above, "join"))
    if not in_loop and not fed and not is_call_of(above, {"len", "reversed"}):
        yield "L23"
