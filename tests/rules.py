"""Where the files of a package break the rules of LANGUAGE.md, as far as a look at them tells.

Some things the rules allow in narrow places alone: `try`, sets, `lambda`, annotations, `__eq__` and its like, a file
`__main__.py`. The package needs none of them, so it is held to have none.
"""

import ast
import builtins
import re

OWN_NAMES = set(dir(builtins))
FUNCTIONS = set("len range enumerate zip min max sum abs sorted reversed int str bool list tuple dict isinstance ord "
                "repr any all divmod".split())
ERRORS = set("Exception ValueError TypeError KeyError IndexError LookupError ZeroDivisionError ArithmeticError "
             "OverflowError RuntimeError NotImplementedError".split())
WRITTEN_OUT = {"True", "False", "None"}
METHODS = set("append clear copy count endswith extend find get index insert isalnum isalpha isdigit islower isspace "
              "isupper items join keys ljust lower lstrip partition pop remove replace reverse rfind rjust rpartition "
              "rsplit rstrip setdefault split splitlines startswith strip update upper values zfill bit_length".split())
CHANGING = set("append clear extend insert pop remove reverse setdefault update".split())
PYTHONS_OWN = {name for kind in (str, int, float, list, tuple, dict, set, frozenset, bytes) for name in dir(kind)}
OWN_METHODS_TOO = METHODS | {"add", "discard"}
OWN_VALUES_TOO = set("count index title find get join lower upper split strip copy add".split())
NOWHERE = set("register mro elements open input version_info with_traceback add_note format format_map f_back f_code "
              "f_globals f_locals f_builtins f_lineno tb_next tb_frame tb_lineno co_names co_code co_consts".split())
NOT_AS_NAMES = set("attrgetter breakpoint builtins compile copyright credits delattr dir eval exec exit gc getattr "
                   "globals hasattr help id importlib license locals methodcaller os quit setattr super vars "
                   "sys".split())
WORDS = set("type typing typing_extensions enum Enum IntEnum StrEnum Flag IntFlag Generic Protocol ABC ABCMeta "
            "namedtuple NamedTuple TypedDict TYPE_CHECKING abstractmethod".split())
WORD_PARTS = ("dataclass", "overload", "contextmanager")
BAD_FILES = {"test", "tests", "testing", "site", "conftest", "sitecustomize", "usercustomize"}
KEYWORDS = {"sorted": {"key", "reverse"}, "min": {"key", "default"}, "max": {"key", "default"}, "sum": {"start"},
            "enumerate": {"start"}, "zip": {"strict"}}
WALKED = {"zip", "enumerate", "reversed", "range"}
WALKED_METHODS = {"items", "keys", "values"}
WALKERS = {"list", "tuple", "dict", "sorted", "sum", "any", "all", "enumerate", "zip", "min", "max"}
READERS = {"len", "list", "dict", "tuple", "sorted", "sum", "min", "max", "any", "all", "enumerate", "zip", "reversed"}
READING = {"get", "items", "keys", "values", "index", "count", "copy"}
STATEMENTS = (ast.Assign, ast.AugAssign, ast.If, ast.While, ast.For, ast.Return, ast.Break, ast.Continue, ast.Pass,
              ast.Raise, ast.Expr, ast.FunctionDef, ast.ClassDef, ast.ImportFrom)
EXPRESSIONS = (ast.Constant, ast.Name, ast.List, ast.Tuple, ast.Dict, ast.BinOp, ast.UnaryOp, ast.BoolOp, ast.Compare,
               ast.IfExp, ast.Call, ast.Attribute, ast.Subscript, ast.Slice, ast.ListComp, ast.JoinedStr,
               ast.FormattedValue)


class Source:
    """A file of the package: its text, its tree, and what stands around each thing in it."""

    def __init__(self, file, text):
        self.file = file
        self.text = text
        self.tree = ast.parse(text)
        self.parents = {child: node for node in ast.walk(self.tree) for child in ast.iter_child_nodes(node)}
        self.nodes = [node for node in ast.walk(self.tree) if hasattr(node, "lineno")]
        self.imports = [alias.name for node in self.of(ast.ImportFrom) for alias in node.names]
        self.classes = {node.name for node in self.of(ast.ClassDef)}
        self.defs = {node.name for node in self.tree.body if isinstance(node, ast.FunctionDef)}
        self.values = {target.id: node for node in self.tree.body if isinstance(node, ast.Assign)
                       for target in node.targets if isinstance(target, ast.Name)}

    def of(self, *kinds):
        return [node for node in self.nodes if isinstance(node, kinds)]

    def at_top(self, node):
        return self.parents[node] is self.tree

    def in_def(self, node):
        while node is not self.tree:
            node = self.parents[node]
            if isinstance(node, ast.FunctionDef):
                return True
        return False

    def called(self, node):
        parent = self.parents[node]
        return isinstance(parent, ast.Call) and parent.func is node

    def by_isinstance(self, node):
        parent = self.parents[node]
        if isinstance(parent, ast.Tuple):
            node, parent = parent, self.parents[parent]
        return isinstance(parent, ast.Call) and name_of(parent.func) == "isinstance" and node in parent.args[1:]


def name_of(node):
    return node.id if isinstance(node, ast.Name) else ""


def attribute_of(node):
    return node.attr if isinstance(node, ast.Attribute) else ""


def breaches(package, files):
    """Each breach as (rule, file, line), of files told as {their name: their text}."""
    found = []
    sources = []
    for file, text in files.items():
        found += [(rule, file, line) for rule, line in file_breaches(file, text)]
        sources.append(Source(file, text))
    methods = {part.name for source in sources for node in source.of(ast.ClassDef) for part in node.body
               if isinstance(part, ast.FunctionDef)}
    values = {node.attr for source in sources for node in source.of(ast.Attribute) if isinstance(node.ctx, ast.Store)}
    for source in sources:
        for looked in (forms(source), tops(source), defs(source), classes(source, methods, values), names(source),
                       kept_values(source), python_calls(source), walked(source), attributes(source, methods, values),
                       texts(source), imports(package, source, sources)):
            found += [(rule, source.file, line) for rule, line in looked]
    if has_ring(package, sources):
        found.append(("L16", package, 0))
    return found


def file_breaches(file, text):
    stem = file.removesuffix(".py")
    if file != "__init__.py" and not re.fullmatch(r"[a-z][a-z0-9_]*\.py", file):
        yield "L1", 0
    if stem in BAD_FILES | WORDS | OWN_NAMES or stem.startswith("test_"):
        yield "L14", 0
    rows = text.split("\n")
    if len(rows) > 401 or len(rows) == 401 and rows[-1]:
        yield "L10", len(rows)
    for line, row in enumerate(rows, start=1):
        if len(row) > 120 or "\t" in row:
            yield "L10", line
        if not all(" " <= sign <= "~" for sign in row):
            yield "L14", line
        if WORDS & set(re.findall(r"\w+", row)) or any(part in row for part in WORD_PARTS):
            yield "L17", line
        if re.search(r"\\(?![nt'\"])", row.replace("\\\\", "")):
            yield "L27", line


def forms(source):
    """L6, L7, L20, L21: which statements and expressions there are."""
    for node in source.nodes:
        if isinstance(node, ast.stmt) and not isinstance(node, STATEMENTS):
            yield {ast.Try: "L19", ast.Import: "L2", ast.AnnAssign: "L21"}.get(node.__class__, "L6"), node.lineno
        if isinstance(node, ast.expr) and not isinstance(node, EXPRESSIONS):
            yield {ast.Set: "L24", ast.Lambda: "L13"}.get(node.__class__, "L7"), node.lineno
    for node in source.of(ast.Assign, ast.AugAssign):
        targets = node.targets if isinstance(node, ast.Assign) else [node.target]
        if len(targets) > 1 or not isinstance(targets[0], (ast.Name, ast.Attribute, ast.Subscript)):
            yield "L6", node.lineno
    for node in source.of(ast.For, ast.While):
        if node.orelse:
            yield "L6", node.lineno
    for node in source.of(ast.Expr):
        if not isinstance(node.value, ast.Call) and not is_docstring(source, node):
            yield "L6", node.lineno
    for node in source.of(ast.Raise):
        if not isinstance(node.exc, ast.Call):
            yield "L19", node.lineno
    yield from expressions(source)


def is_docstring(source, node):
    parent = source.parents[node]
    heads = (ast.Module, ast.FunctionDef, ast.ClassDef)
    return (isinstance(parent, heads) and parent.body[0] is node and isinstance(node, ast.Expr)
            and isinstance(node.value, ast.Constant) and isinstance(node.value.value, str))


def expressions(source):
    for node in source.of(ast.Constant):
        if not isinstance(node.value, (int, str, type(None))):
            yield "L7", node.lineno
    for node in source.of(ast.BinOp, ast.AugAssign):
        if isinstance(node.op, (ast.Div, ast.MatMult)):
            yield "L7", node.lineno
        exponent = node.right if isinstance(node, ast.BinOp) else node.value
        if isinstance(node.op, ast.Pow) and not (isinstance(exponent, ast.Constant) and exponent.value in range(65)):
            yield "L27", node.lineno
    for node in source.of(ast.ListComp):
        if len(node.generators) > 1 or len(node.generators[0].ifs) > 1:
            yield "L7", node.lineno
    for node in source.of(ast.FormattedValue):
        if not isinstance(node.value, ast.Name) or node.conversion not in (-1, ord("r")) or node.format_spec:
            yield "L7", node.lineno
    for node in source.of(ast.Compare):
        sides = [node.left] + node.comparators
        for k, op in enumerate(node.ops):
            told = [isinstance(side, ast.Constant) and side.value in (None, True, False) for side in sides[k:k + 2]]
            if isinstance(op, (ast.Is, ast.IsNot)) and not any(told):
                yield "L20", node.lineno


def tops(source):
    """L3, L15: what stands at the top of a file."""
    above = set()
    bound = []
    for node in source.tree.body:
        if isinstance(node, (ast.FunctionDef, ast.ClassDef)):
            bound.append(node.name)
            above |= {node.name} & source.defs
        elif isinstance(node, ast.ImportFrom):
            bound += [alias.asname or alias.name for alias in node.names]
        elif isinstance(node, ast.Assign):
            bound += [name_of(target) for target in node.targets]
            if not name_of(node.targets[0]) or not is_plain(node.value, above):
                yield "L3", node.lineno
            if isinstance(node.value, (ast.List, ast.Dict)) and any(
                    isinstance(part, (ast.List, ast.Dict)) for part in list(ast.walk(node.value))[1:]):
                yield "L15", node.lineno
        elif not is_docstring(source, node):
            yield "L3", node.lineno
    if len(set(bound)) < len(bound):
        yield "L15", 0
    for node in source.of(ast.ClassDef):
        if not source.at_top(node):
            yield "L15", node.lineno


def is_plain(node, above):
    if isinstance(node, (ast.List, ast.Tuple)):
        return all(is_plain(part, above) for part in node.elts)
    if isinstance(node, ast.Dict):
        return all(is_plain(part, above) for part in node.keys + node.values)
    if isinstance(node, ast.UnaryOp) and isinstance(node.op, ast.USub):
        node = node.operand
    return isinstance(node, ast.Constant) or name_of(node) in above


def defs(source):
    """L4, L10, L15, L21, L28: functions and their parameters."""
    taken = OWN_NAMES | source.classes | set(source.imports)
    for node in source.of(ast.FunctionDef):
        told = node.args
        if told.vararg or told.kwarg or told.kwonlyargs or told.posonlyargs or node.decorator_list:
            yield "L4", node.lineno
        if not all(is_plain(default, set()) for default in told.defaults):
            yield "L4", node.lineno
        if node.end_lineno - node.lineno >= 40:
            yield "L10", node.lineno
        if node.returns or any(part.annotation for part in told.args):
            yield "L21", node.lineno
        if taken & {part.arg for part in told.args}:
            yield "L15", node.lineno
        if node.name.startswith("__") and node.name != "__init__":
            yield "L28", node.lineno
        if node.name == "__init__" and any(
                isinstance(part, ast.Return) and part.value is not None for part in ast.walk(node)):
            yield "L28", node.lineno
    for node in source.of(ast.Name):
        if isinstance(node.ctx, ast.Store) and source.in_def(node) and node.id in taken:
            yield "L15", node.lineno


def classes(source, methods, values):
    """L5, L18: classes, and where they stand."""
    for node in source.of(ast.ClassDef):
        told = [part.name for part in node.body if isinstance(part, ast.FunctionDef)]
        rest = [part for part in node.body if not isinstance(part, ast.FunctionDef) and not is_docstring(source, part)]
        if len(node.bases) > 1 or node.keywords or node.decorator_list or rest:
            yield "L5", node.lineno
        if any(name_of(base) not in ERRORS | source.classes | set(source.imports) for base in node.bases):
            yield "L5", node.lineno
        if len(set(told)) < len(told) or set(told) & methods & values:
            yield "L18", node.lineno
    for node in source.of(ast.Name):
        parent = source.parents[node]
        stands = (source.called(node) or source.by_isinstance(node) or isinstance(parent, ast.ClassDef)
                  or attribute_of(parent) == "__init__")
        if node.id in source.classes and not stands:
            yield "L18", node.lineno
    for node in source.of(ast.Attribute):
        of_top = source.classes | source.defs | set(source.values) | set(source.imports)
        if isinstance(node.ctx, ast.Store) and name_of(node.value) in of_top | {""}:
            yield "L18", node.lineno


def names(source):
    """L8, L12, L17, L24, L27: which names there are."""
    told = [(node.id, node.lineno) for node in source.of(ast.Name)]
    told += [(node.attr, node.lineno) for node in source.of(ast.Attribute)]
    told += [(node.name, node.lineno) for node in source.of(ast.FunctionDef, ast.ClassDef)]
    told += [(node.arg, node.lineno) for node in source.nodes if isinstance(node, (ast.arg, ast.keyword)) and node.arg]
    for name, line in told:
        if not re.fullmatch(r"[A-Za-z][A-Za-z0-9_]*", name) and name not in ("__init__", "__all__", "__version__"):
            yield "L12", line
        if name in NOWHERE:
            yield "L17", line
    for node in source.of(ast.Name):
        if node.id in NOT_AS_NAMES:
            yield "L17", node.lineno
        elif node.id in ("set", "frozenset"):
            yield "L24", node.lineno
        elif node.id == "chr":
            yield "L27", node.lineno
        elif node.id in OWN_NAMES and node.id not in FUNCTIONS | ERRORS | WRITTEN_OUT:
            yield "L8", node.lineno


def kept_values(source):
    """L15: lists and dicts of a file's top are only read."""
    kept = {name for name, node in source.values.items() if isinstance(node.value, (ast.List, ast.Dict))}
    for node in source.of(ast.Name):
        parent = source.parents[node]
        if node.id not in kept or source.at_top(parent):
            continue
        read = (isinstance(parent, ast.Subscript) and isinstance(parent.ctx, ast.Load) and parent.value is node
                or isinstance(parent, ast.Compare)
                or isinstance(parent, (ast.For, ast.comprehension)) and parent.iter is node
                or isinstance(parent, ast.Call) and name_of(parent.func) in READERS
                or attribute_of(parent) in READING)
        if not read:
            yield "L15", node.lineno


def python_calls(source):
    """L22: Python's own functions are called where they stand, with few keywords."""
    for node in source.of(ast.Name):
        parent = source.parents[node]
        as_key = isinstance(parent, ast.keyword) and parent.arg == "key"
        if node.id in FUNCTIONS and not (source.called(node) or source.by_isinstance(node) or as_key):
            yield "L22", node.lineno
    for node in source.of(ast.Call):
        func = name_of(node.func)
        own = func in source.defs | source.classes | set(source.imports)
        own = own or attribute_of(node.func) not in METHODS | {""}
        if not own and {keyword.arg for keyword in node.keywords} - KEYWORDS.get(func, set()):
            yield "L22", node.lineno


def walked(source):
    """L23: what is walked at once, and what a loop walks."""
    for node in source.of(ast.Call):
        if name_of(node.func) not in WALKED and attribute_of(node.func) not in WALKED_METHODS:
            continue
        parent = source.parents[node]
        looped = isinstance(parent, (ast.For, ast.comprehension)) and parent.iter is node
        handed = isinstance(parent, ast.Call) and node in parent.args and (
            name_of(parent.func) in WALKERS or attribute_of(parent.func) == "join")
        if not looped and not handed:
            yield "L23", node.lineno
    for loop in source.of(ast.For):
        over = loop.iter
        while isinstance(over, ast.Call) and name_of(over.func) in ("enumerate", "zip", "reversed") and over.args:
            over = over.args[0]
        if isinstance(over, ast.Call) and attribute_of(over.func) in WALKED_METHODS:
            over = over.func.value
        for node in [part for row in loop.body for part in ast.walk(row)]:
            changed = (attribute_of(node) in CHANGING
                       or isinstance(node, ast.Subscript) and isinstance(node.ctx, ast.Store))
            if changed and ast.unparse(node.value) == ast.unparse(over):
                yield "L23", node.lineno


def attributes(source, methods, values):
    """L25, L26: methods and values of objects."""
    for node in source.of(ast.Attribute):
        if source.called(node):
            if node.attr not in METHODS | methods:
                yield "L25", node.lineno
        elif node.attr not in values:
            yield "L25", node.lineno
        if isinstance(node.ctx, ast.Store) and node.attr in PYTHONS_OWN - OWN_VALUES_TOO | {"args", "sort"}:
            yield "L26", node.lineno
    for node in source.of(ast.ClassDef):
        for part in node.body:
            if isinstance(part, ast.FunctionDef) and part.name in PYTHONS_OWN - OWN_METHODS_TOO - {"__init__"}:
                yield "L26", part.lineno


def texts(source):
    """L27: what stands in texts and numbers."""
    for node in source.of(ast.Constant):
        if isinstance(node.value, str) and "%" in node.value:
            yield "L27", node.lineno
        if isinstance(node.value, int) and node.value >= 10 ** 900:
            yield "L27", node.lineno


def imports(package, source, sources):
    """L2, L16: imports stand at the top, of names that the package's own files define."""
    defined = {package + "." + other.file.removesuffix(".py"): other.defs | other.classes | set(other.values)
               for other in sources}
    begun = False
    for node in source.tree.body:
        begun = begun or not isinstance(node, ast.ImportFrom) and not is_docstring(source, node)
        if isinstance(node, ast.ImportFrom) and begun:
            yield "L2", node.lineno
    for node in source.of(ast.ImportFrom):
        told = [alias.name for alias in node.names]
        if node.module == "__future__" and told == ["annotations"]:
            continue
        if not source.at_top(node) or node.level or node.module.split(".")[0] != package or "*" in told:
            yield "L2", node.lineno
        elif not set(told) <= defined.get(node.module, set()) or any(alias.asname for alias in node.names):
            yield "L16", node.lineno


def has_ring(package, sources):
    """Whether two files draw from one another, in however many steps."""
    drawn = {}
    for source in sources:
        modules = {str(node.module) for node in source.of(ast.ImportFrom)}
        drawn[source.file] = {module.removeprefix(package + ".") + ".py" for module in modules} | (
            {"__init__.py"} if modules and source.file != "__init__.py" else set())
    left = set(drawn)
    while left:
        free = {file for file in left if not drawn[file] & left}
        if not free:
            return True
        left -= free
    return False
