"""Finds where the package's files leave the form that LANGUAGE.md tells, rule by rule.

Where a rule allows what the package has no use for (sets, annotations, nested ways out, methods
with two underscores but __init__, a __main__.py, a function that calls itself), this is narrower
than the rule and simpler. What can't be seen in the files' form is left to the reader: L11's error
messages.
"""

import ast
import builtins
import re

PACKAGE = "ductplan"

STATEMENTS = (
    ast.Assign, ast.AugAssign, ast.If, ast.While, ast.For, ast.Return, ast.Break, ast.Continue, ast.Pass, ast.Raise,
    ast.Try, ast.Expr, ast.FunctionDef, ast.ClassDef, ast.ImportFrom,
)
EXPRESSIONS = (
    ast.Constant, ast.List, ast.Tuple, ast.Dict, ast.BinOp, ast.UnaryOp, ast.Compare, ast.BoolOp, ast.IfExp, ast.Call,
    ast.Attribute, ast.Subscript, ast.Slice, ast.ListComp, ast.JoinedStr, ast.FormattedValue, ast.Lambda, ast.Name,
)
OWN_FUNCTIONS = set(
    "len range enumerate zip min max sum abs sorted reversed int str bool list tuple dict isinstance ord repr any all "
    "divmod".split())
OWN_ERRORS = set(
    "Exception ValueError TypeError KeyError IndexError LookupError ZeroDivisionError ArithmeticError OverflowError "
    "RuntimeError NotImplementedError AttributeError StopIteration".split())
TAKEN_FREELY = {"KeyError", "ZeroDivisionError", "StopIteration"}
KEYWORDS = {
    "sorted": {"key", "reverse"}, "min": {"key", "default"}, "max": {"key", "default"}, "sum": {"start"},
    "enumerate": {"start"}, "zip": {"strict"},
}
KEYS = {"len", "int", "str", "abs", "sum", "min", "max", "tuple"}
WALKED = {"zip", "enumerate", "reversed", "range"}
WALKED_METHODS = {"items", "keys", "values"}
WALKERS = {"list", "tuple", "dict", "sorted", "sum", "any", "all", "enumerate", "zip", "min", "max"}
CHANGES = {"append", "clear", "extend", "insert", "pop", "remove", "reverse", "setdefault", "update"}
METHODS = CHANGES | set(
    "copy count endswith find get index isalnum isalpha isdigit islower isspace isupper items join keys ljust lower "
    "lstrip partition replace rfind rjust rpartition rsplit rstrip split splitlines startswith strip upper values "
    "zfill bit_length".split())
READS = {"get", "items", "keys", "values", "index", "count", "copy"}
READERS = {"len", "list", "dict", "tuple", "sorted", "sum", "min", "max", "any", "all", "enumerate", "zip", "reversed"}
VALUE_NAMES = set("count index title find get join lower upper split strip copy add".split())
NATIVE = set()
for native in (str, int, list, tuple, dict, set, frozenset, bytes, bytearray):
    NATIVE |= set(dir(native))

NOWHERE = set("register mro elements open input version_info with_traceback add_note format format_map".split())
FRAMES = re.compile(r"(f|tb|co|gi|cr|ag)_[a-z]+$")
NOT_NAMES = set(
    "attrgetter breakpoint builtins compile copyright credits delattr dir eval exec exit gc getattr globals hasattr "
    "help id importlib license locals methodcaller os quit setattr super type vars sys __name__".split())
WORDS = set(
    "type typing typing_extensions enum Enum IntEnum StrEnum Flag IntFlag Generic Protocol ABC ABCMeta namedtuple "
    "NamedTuple TypedDict TYPE_CHECKING abstractmethod".split())
PARTS = ("dataclass", "overload", "contextmanager")
FILE_NAMES = {"test", "tests", "testing", "site", "conftest", "sitecustomize", "usercustomize"}
PLAIN = re.compile(r"[A-Za-z][A-Za-z0-9_]*$")


class Source:
    """One file, read; `above` tells of each node what it stands in."""

    def __init__(self, name, text):
        self.name = name
        self.text = text
        self.tree = ast.parse(text)
        self.nodes = list(ast.walk(self.tree))
        self.above = {child: node for node in self.nodes for child in ast.iter_child_nodes(node)}
        self.functions = self.every(ast.FunctionDef)
        self.classes = {node.name for node in self.every(ast.ClassDef)}
        self.imported = {alias.name: node.module for node in self.every(ast.ImportFrom) for alias in node.names}
        self.bound = [node for node in self.tree.body if isinstance(node, (ast.FunctionDef, ast.ClassDef))]
        self.tables = {
            node.targets[0].id for node in self.tree.body
            if isinstance(node, ast.Assign) and isinstance(node.value, (ast.List, ast.Dict))
            and isinstance(node.targets[0], ast.Name)}

    def every(self, *sorts):
        return [node for node in self.nodes if isinstance(node, sorts)]

    def is_in_function(self, node):
        while node in self.above:
            node = self.above[node]
            if isinstance(node, (ast.FunctionDef, ast.Lambda)):
                return True
        return False

    def calls_of(self, node):
        """The call that the node is called by, or None."""
        call = self.above.get(node)
        return call if isinstance(call, ast.Call) and call.func is node else None

    def top_names(self):
        names = [node.name for node in self.bound] + list(self.imported)
        for node in self.tree.body:
            if isinstance(node, ast.Assign):
                names += [target.id for target in node.targets if isinstance(target, ast.Name)]
        return names


class Report:
    def __init__(self):
        self.lines = []

    def add(self, rule, source, node, words):
        self.lines.append(f"{rule} {source.name}:{getattr(node, 'lineno', 1)}: {words}")


def faults(texts):
    """All places, as texts; `texts` is a dict of each file's name and what is in it."""
    report = Report()
    sources = {}
    for name, text in texts.items():
        check_file_name(name, report)
        sources[name] = Source(name, text)
    methods, values = own_methods(sources), own_values(sources)
    for source in sources.values():
        for check in (check_text, check_top, check_functions, check_classes, check_statements, check_expressions,
                      check_names, check_tables, check_class_use, check_errors, check_native_calls, check_walks):
            check(source, report)
        check_attributes(source, methods, values, report)
    check_imports(sources, report)
    check_recursion(sources, report)
    for name in sorted(methods & values):
        report.lines.append(f"L18 {name} is a method here and a value there")
    return report.lines


def own_methods(sources):
    return {
        item.name for source in sources.values() for node in source.every(ast.ClassDef)
        for item in node.body if isinstance(item, ast.FunctionDef)}


def own_values(sources):
    return {
        node.attr for source in sources.values() for node in source.every(ast.Attribute)
        if isinstance(node.ctx, ast.Store)}


def check_file_name(name, report):
    stem = name.removesuffix(".py")
    if not name.endswith(".py") or not (stem == "__init__" or re.fullmatch(r"[a-z][a-z0-9_]*", stem)):
        report.lines.append(f"L1 L9 {name}: not a plain .py file")
    if stem in FILE_NAMES | WORDS or stem.startswith("test_") or stem != "__init__" and hasattr(builtins, stem):
        report.lines.append(f"L14 {name}: not to be called so")


def check_text(source, report):
    lines = source.text.split("\n")
    if len(lines) > 401:
        report.lines.append(f"L10 {source.name}: more than 400 lines")
    for number, line in enumerate(lines, start=1):
        if len(line) > 120 or "\t" in line:
            report.lines.append(f"L10 {source.name}:{number}: over 120 signs, or a tab")
        if not all(" " <= sign <= "~" for sign in line):
            report.lines.append(f"L14 {source.name}:{number}: a sign that isn't plain")
        if re.search(r"\\[^nt\\'\"]|\\$", line):
            report.lines.append(f"L27 {source.name}:{number}: an escape that isn't allowed")
        words = set(re.findall(r"[A-Za-z0-9_]+", line))
        if words & WORDS or any(part in line for part in PARTS):
            report.lines.append(f"L17 {source.name}:{number}: a word that isn't used")
        if len(re.findall(r"\blambda\b", line)) > 1:
            report.lines.append(f"L13 {source.name}:{number}: two lambdas")
    for node in source.functions:
        if node.end_lineno - node.lineno >= 40:
            report.add("L10", source, node, "a function of more than 40 lines")


def is_plain(node, functions):
    if isinstance(node, (ast.List, ast.Tuple)):
        return all(is_plain(item, functions) for item in node.elts)
    if isinstance(node, ast.Dict):
        return all(item is not None and is_plain(item, functions) for item in node.keys + node.values)
    if isinstance(node, ast.UnaryOp):
        return isinstance(node.op, ast.USub) and isinstance(node.operand, ast.Constant)
    return isinstance(node, ast.Constant) or isinstance(node, ast.Name) and node.id in functions


def check_top(source, report):
    functions = set()
    for place, node in enumerate(source.tree.body):
        if isinstance(node, ast.FunctionDef):
            functions.add(node.name)
        elif isinstance(node, ast.Assign):
            if not isinstance(node.targets[0], ast.Name) or not is_plain(node.value, functions):
                report.add("L3", source, node, "not a plain value")
            for item in ast.walk(node.value):
                if item is not node.value and isinstance(item, (ast.List, ast.Dict)):
                    report.add("L15", source, item, "a list or dict within another")
        elif isinstance(node, ast.Expr):
            if place > 0 or not is_docstring(source, node):
                report.add("L3", source, node, "something done at a file's top")
        elif not isinstance(node, (ast.ClassDef, ast.ImportFrom)):
            report.add("L3", source, node, "not a statement for a file's top")
    names = source.top_names()
    for name in sorted({name for name in names if names.count(name) > 1}):
        report.lines.append(f"L15 {source.name}: {name} is bound twice")


def check_functions(source, report):
    for node in source.every(ast.FunctionDef, ast.Lambda):
        args = node.args
        if args.vararg or args.kwarg or args.kwonlyargs or args.posonlyargs:
            report.add("L4", source, node, "parameters that aren't plain")
        if not all(is_plain(default, ()) for default in args.defaults):
            report.add("L4", source, node, "a default that isn't plain")
        if any(arg.annotation for arg in args.args):
            report.add("L21", source, node, "an annotation")
    for node in source.functions:
        if node.decorator_list:
            report.add("L4", source, node, "a decorator")
        if node.returns:
            report.add("L21", source, node, "an annotation")
        for inner in ast.walk(node):
            if inner is not node and isinstance(inner, ast.FunctionDef) and stored(inner) & stored(node, inner):
                report.add("L4", source, inner, "a name from around it is assigned")
            if node.name == "__init__" and isinstance(inner, ast.Return) and inner.value:
                report.add("L28", source, inner, "__init__ gives something back")


def stored(function, without=None):
    """The names that are parameters of the function, or given a value in it."""
    left_out = set() if without is None else set(ast.walk(without))
    names = {arg.arg for arg in function.args.args}
    for node in ast.walk(function):
        if isinstance(node, ast.Name) and isinstance(node.ctx, ast.Store) and node not in left_out:
            names.add(node.id)
    return names


def check_classes(source, report):
    for node in source.every(ast.ClassDef):
        if node not in source.tree.body:
            report.add("L15", source, node, "a class that isn't at the top")
        if node.decorator_list or node.keywords or len(node.bases) > 1:
            report.add("L5", source, node, "not a plain class")
        if node.bases and ast.unparse(node.bases[0]) in ("StopIteration", "AttributeError"):
            report.add("L18", source, node, "not a base for an error class")
        for item in node.body:
            if not isinstance(item, (ast.FunctionDef, ast.Pass)) and not is_docstring(source, item):
                report.add("L5", source, item, "a value in a class body")
            if isinstance(item, ast.FunctionDef) and item.name.startswith("__") and item.name != "__init__":
                report.add("L5", source, item, "a method with two underscores")
        names = [item.name for item in node.body if isinstance(item, ast.FunctionDef)]
        if len(names) != len(set(names)):
            report.add("L18", source, node, "a method stands twice")


def is_docstring(source, node):
    around = source.above.get(node)
    return (isinstance(node, ast.Expr) and isinstance(node.value, ast.Constant) and isinstance(node.value.value, str)
            and isinstance(around, (ast.Module, ast.FunctionDef, ast.ClassDef)) and around.body[0] is node)


def check_statements(source, report):
    for node in source.every(ast.stmt):
        if isinstance(node, ast.AnnAssign):
            report.add("L21", source, node, "an annotation")
        elif not isinstance(node, STATEMENTS):
            report.add("L6", source, node, "a statement that isn't allowed")
        if isinstance(node, (ast.For, ast.While)) and node.orelse:
            report.add("L6", source, node, "else behind a loop")
        if isinstance(node, ast.Assign) and (len(node.targets) > 1 or not is_one_target(node.targets[0])):
            report.add("L6", source, node, "more than one target")
        if isinstance(node, ast.Try) and node.finalbody:
            report.add("L6", source, node, "finally")
        if isinstance(node, ast.Expr) and not isinstance(node.value, ast.Call) and not is_docstring(source, node):
            report.add("L6", source, node, "an expression by itself")
        if isinstance(node, ast.ImportFrom) and node not in source.tree.body:
            report.add("L2", source, node, "an import that isn't at the top")


def is_one_target(node):
    return isinstance(node, (ast.Name, ast.Attribute, ast.Subscript))


def check_expressions(source, report):
    for node in source.every(ast.expr):
        if isinstance(node, (ast.Set, ast.SetComp)) or isinstance(node, ast.Name) and node.id in ("set", "frozenset"):
            report.add("L24", source, node, "a set")
        elif not isinstance(node, EXPRESSIONS):
            report.add("L7", source, node, "an expression that isn't allowed")
        if isinstance(node, ast.Constant):
            check_constant(source, node, report)
        if isinstance(node, ast.ListComp) and (len(node.generators) > 1 or len(node.generators[0].ifs) > 1):
            report.add("L7", source, node, "more than one for, or if")
        if isinstance(node, ast.FormattedValue):
            if not isinstance(node.value, ast.Name) or node.format_spec or node.conversion not in (-1, ord("r")):
                report.add("L7", source, node, "an f-string that isn't plain")
        if isinstance(node, ast.Dict) and None in node.keys:
            report.add("L7", source, node, "stars")
        if isinstance(node, ast.Compare):
            sides = [node.left] + node.comparators
            if any(isinstance(op, (ast.Is, ast.IsNot)) for op in node.ops) and not any(map(is_singleton, sides)):
                report.add("L20", source, node, "is beside something else")
    for node in source.every(ast.BinOp, ast.AugAssign):
        if isinstance(node.op, (ast.Div, ast.MatMult)):
            report.add("L7", source, node, "an operator that isn't allowed")
        if isinstance(node.op, ast.Pow):
            power = node.value if isinstance(node, ast.AugAssign) else node.right
            if not isinstance(power, ast.Constant) or power.value not in range(65):
                report.add("L27", source, node, "an exponent that isn't written, or too great")


def is_singleton(node):
    return isinstance(node, ast.Constant) and (node.value is None or isinstance(node.value, bool))


def check_constant(source, node, report):
    if not (node.value is None or isinstance(node.value, (bool, int, str))):
        report.add("L7", source, node, "a value that isn't allowed")
    if isinstance(node.value, str) and "%" in node.value:
        report.add("L27", source, node, "a per cent sign in a text")
    if isinstance(node.value, int) and abs(node.value) >= 10 ** 900:
        report.add("L27", source, node, "too many digits")


def check_names(source, report):
    for node in source.nodes:
        name = next((getattr(node, field) for field in ("id", "attr", "arg", "name")
                     if isinstance(getattr(node, field, None), str)), None)
        if name is None or isinstance(node, ast.alias):
            continue
        if name != "__init__" and not PLAIN.match(name):
            report.add("L12", source, node, f"the name {name}")
        if name in NOWHERE or FRAMES.match(name) or name in NOT_NAMES and not isinstance(node, ast.Attribute):
            report.add("L17", source, node, f"the name {name}")
        bound = isinstance(node, (ast.arg, ast.FunctionDef, ast.ClassDef)) or isinstance(
            getattr(node, "ctx", None), ast.Store) and isinstance(node, ast.Name)
        if bound and hasattr(builtins, name) and not isinstance(source.above.get(node), ast.ClassDef):
            report.add("L15", source, node, f"{name} is a name of Python's own")
        if isinstance(node, (ast.arg, ast.Name)) and bound and name in source.classes | set(source.imported):
            report.add("L15", source, node, f"{name} is a class or an import")
        if isinstance(node, ast.Name) and not bound and hasattr(builtins, name) and name not in source.top_names():
            if name not in OWN_FUNCTIONS | OWN_ERRORS | {"set", "frozenset"}:
                report.add("L8", source, node, f"the name {name}")


def check_tables(source, report):
    for node in source.every(ast.Name):
        if node.id not in source.tables or not source.is_in_function(node):
            continue
        around = source.above[node]
        is_read = (
            isinstance(around, ast.Subscript) and isinstance(around.ctx, ast.Load) and around.value is node
            or isinstance(around, (ast.Compare, ast.For, ast.comprehension))
            or isinstance(around, ast.Attribute) and around.attr in READS
            or isinstance(around, ast.Call) and isinstance(around.func, ast.Name) and around.func.id in READERS)
        if isinstance(node.ctx, ast.Store) or not is_read:
            report.add("L15", source, node, f"{node.id} is not only read")


def check_class_use(source, report):
    known = source.classes | {name for name in source.imported if name[:1].isupper() and not name.isupper()}
    for node in source.every(ast.Name):
        if node.id not in known:
            continue
        around = source.above[node]
        is_checked = is_checked_for(source, node)
        is_method = isinstance(around, ast.Attribute) and around.attr == "__init__"
        if not (source.calls_of(node) or is_checked or is_method
                or isinstance(around, (ast.ClassDef, ast.ExceptHandler, ast.Raise))):
            report.add("L18", source, node, f"the class {node.id} as a value")
    for node in source.every(ast.Attribute):
        if isinstance(node.ctx, ast.Store):
            if not isinstance(node.value, ast.Name) or node.value.id in source.top_names():
                report.add("L18", source, node, "a value that isn't given through a local name")


def check_errors(source, report):
    own = source.classes | set(source.imported)
    for node in source.every(ast.ExceptHandler):
        taken = node.type.elts if isinstance(node.type, ast.Tuple) else [node.type]
        if not all(isinstance(item, ast.Name) and item.id in TAKEN_FREELY | own for item in taken):
            report.add("L19", source, node, "an error that isn't taken")
    for node in source.every(ast.Raise):
        if not isinstance(node.exc, ast.Call):
            report.add("L19", source, node, "raise that doesn't make its error on the spot")
        handlers = {handler.name for handler in source.every(ast.ExceptHandler)}
        if node.cause and not is_singleton(node.cause) and ast.unparse(node.cause) not in handlers:
            report.add("L19", source, node, "raise from something else than the handler's own")


def check_native_calls(source, report):
    for node in source.every(ast.Name):
        if node.id not in OWN_FUNCTIONS:
            continue
        around = source.above[node]
        call = source.calls_of(node)
        if call is None:
            is_key = isinstance(around, ast.keyword) and around.arg == "key" and node.id in KEYS
            if not is_key and not is_checked_for(source, node):
                report.add("L22", source, node, f"{node.id} as a value")
        elif not {keyword.arg for keyword in call.keywords} <= KEYWORDS.get(node.id, set()):
            report.add("L22", source, node, "a keyword that isn't allowed")
    for node in source.every(ast.Call):
        for keyword in node.keywords:
            if keyword.arg in ("reverse", "strict") and not is_singleton(keyword.value):
                report.add("L22", source, node, "True or False that isn't written")
        if isinstance(node.func, ast.Attribute) and node.func.attr in METHODS and node.keywords:
            report.add("L22", source, node, "a keyword at a method of Python's own")


def is_checked_for(source, node):
    """Whether the name is what isinstance asks for, by itself or in a tuple."""
    if isinstance(source.above[node], ast.Tuple):
        node = source.above[node]
    call = source.above[node]
    return isinstance(call, ast.Call) and ast.unparse(call.func) == "isinstance" and call.args[1:] == [node]


def is_walked(node):
    return isinstance(node, ast.Call) and (
        isinstance(node.func, ast.Name) and node.func.id in WALKED
        or isinstance(node.func, ast.Attribute) and node.func.attr in WALKED_METHODS)


def check_walks(source, report):
    for node in source.every(ast.Call):
        around = source.above[node]
        if not is_walked(node) or isinstance(around, (ast.For, ast.comprehension)) and around.iter is node:
            continue
        if not is_walked_by(around, node):
            report.add("L23", source, node, "kept, not walked on the spot")
    for loop in source.every(ast.For):
        walked = {ast.unparse(item) for item in names_walked(loop.iter)}
        for node in [inner for part in loop.body for inner in ast.walk(part)]:
            is_change = isinstance(node, ast.Attribute) and node.attr in CHANGES and source.calls_of(node)
            is_store = isinstance(node, ast.Subscript) and isinstance(node.ctx, ast.Store)
            if (is_change or is_store) and ast.unparse(node.value) in walked:
                report.add("L23", source, node, "what a loop walks is changed in it")


def is_walked_by(call, node):
    if not isinstance(call, ast.Call) or node not in call.args:
        return False
    if isinstance(call.func, ast.Attribute):
        return call.func.attr == "join" and isinstance(call.func.value, ast.Constant)
    if not isinstance(call.func, ast.Name) or call.func.id not in WALKERS:
        return False
    # zip walks all that it is given, min and max only what they are given alone.
    alone = call.func.id not in ("min", "max") or len(call.args) == 1
    return alone and (node is call.args[0] or call.func.id == "zip")


def names_walked(node):
    """What a loop over `node` walks, seen through zip, enumerate and their like."""
    if not is_walked(node):
        return [node]
    if isinstance(node.func, ast.Attribute):
        return [node.func.value]
    return [item for arg in node.args for item in names_walked(arg)]


def check_attributes(source, methods, values, report):
    for node in source.every(ast.Attribute):
        is_key = isinstance(source.above[node], ast.keyword) and source.above[node].arg == "key"
        if source.calls_of(node):
            if node.attr not in METHODS | methods:
                report.add("L25", source, node, f"the method {node.attr}")
        elif node.attr not in values and not (is_key and node.attr in methods):
            report.add("L25", source, node, f"{node.attr} is not called where it stands")
        if isinstance(node.ctx, ast.Store) and node.attr in NATIVE - VALUE_NAMES:
            report.add("L26", source, node, f"a value called {node.attr}")
    for node in source.every(ast.ClassDef):
        for item in node.body:
            if isinstance(item, ast.FunctionDef) and item.name in NATIVE - METHODS - {"add", "discard", "__init__"}:
                report.add("L26", source, item, f"a method called {item.name}")


def check_imports(sources, report):
    drawn = {name: set() for name in sources}
    for source in sources.values():
        for node in source.every(ast.Import):
            report.add("L16", source, node, "import, without from")
        for node in source.every(ast.ImportFrom):
            target = f"{(node.module or '').removeprefix(PACKAGE + '.')}.py"
            if node.level or target not in sources or not (node.module or "").startswith(PACKAGE + "."):
                report.add("L2", source, node, "not a module of the package's own, by its full name")
                continue
            drawn[source.name] |= {target, "__init__.py"} & set(sources)
            target_source = sources[target]
            for alias in node.names:
                if alias.name not in target_source.top_names() or alias.name in target_source.imported:
                    report.add("L16", source, node, f"{alias.name} is not defined there")
                if alias.asname and not PLAIN.match(alias.asname):
                    report.add("L12", source, node, f"the name {alias.asname}")
    for name in drawn:
        if name in reached(drawn, name):
            report.lines.append(f"L16 {name}: files that draw from one another")
    if "__init__.py" in sources:
        stems = {name.removesuffix(".py") for name in sources}
        for name in sorted(stems & set(sources["__init__.py"].top_names())):
            report.lines.append(f"L16 __init__.py: binds {name}")


def check_recursion(sources, report):
    """By names alone: two functions with the same name count as one."""
    called = {node.name: set() for source in sources.values() for node in source.functions}
    for source in sources.values():
        for node in source.functions:
            names = {getattr(call.func, "id", None) or getattr(call.func, "attr", None)
                     for call in ast.walk(node) if isinstance(call, ast.Call)}
            called[node.name] |= names & set(called)
    for name in called:
        if name in reached(called, name):
            report.lines.append(f"L11 {name} calls itself, in however many steps")


def reached(drawn, start):
    found = set()
    waiting = list(drawn[start])
    while waiting:
        name = waiting.pop()
        if name not in found:
            found.add(name)
            waiting.extend(drawn[name])
    return found
