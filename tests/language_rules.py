"""Holds the package's files against LANGUAGE.md, rule by rule.

It is narrower than the rules: what this program has no need of (imports, classes, errors, sets,
functions within functions, annotations, f-strings) is refused whole, so that nothing finer need be told.
Each check takes a File and gives the lines that break its rule.
"""

import ast
import builtins
import io
import re
import tokenize

OWN_ERRORS = """Exception ValueError TypeError KeyError IndexError LookupError ZeroDivisionError ArithmeticError
    OverflowError RuntimeError NotImplementedError AttributeError StopIteration""".split()
PYTHON_NAMES = """len range enumerate zip min max sum abs sorted reversed int str bool list tuple dict set frozenset
    isinstance ord chr repr any all divmod""".split() + OWN_ERRORS
METHODS = """append clear copy count endswith extend find get index insert isalnum isalpha isdigit islower isspace
    isupper items join keys ljust lower lstrip partition pop remove replace reverse rfind rjust rpartition rsplit
    rstrip setdefault split splitlines startswith strip update upper values zfill bit_length""".split()
CHANGING = "append clear extend insert pop remove reverse setdefault update".split()
WALKS = "zip enumerate reversed range".split()
WALK_METHODS = "items keys values".split()
WALKERS = "list tuple dict sorted sum any all enumerate zip".split()
KEYS = "len int str abs sum min max tuple".split()
KEYWORDS = {"sorted": ("key", "reverse"), "min": ("key", "default"), "max": ("key", "default"),
            "sum": ("start",), "enumerate": ("start",), "zip": ("strict",)}
BANNED_ANYWHERE = "register mro elements open input version_info with_traceback add_note".split()
BANNED_NAMES = """attrgetter breakpoint builtins compile copyright credits delattr dir eval exec exit gc getattr globals
    hasattr help id importlib license locals methodcaller os quit setattr super type vars sys __name__""".split()
BANNED_WORDS = """type typing typing_extensions enum Enum IntEnum StrEnum Flag IntFlag Generic Protocol ABC ABCMeta
    namedtuple NamedTuple TypedDict TYPE_CHECKING abstractmethod""".split()
BANNED_PARTS = "dataclass overload contextmanager".split()
BANNED_FILES = "test tests testing site conftest sitecustomize usercustomize".split()

STATEMENTS = (ast.Assign, ast.AugAssign, ast.If, ast.While, ast.For, ast.Return, ast.Break, ast.Continue, ast.Pass,
              ast.Expr, ast.FunctionDef)
# These have a rule of their own.
OTHER_STATEMENTS = (ast.Import, ast.ImportFrom, ast.ClassDef, ast.AnnAssign, ast.Try, ast.Raise)
EXPRESSIONS = (ast.Constant, ast.List, ast.Tuple, ast.Dict, ast.BinOp, ast.UnaryOp, ast.Compare, ast.BoolOp,
               ast.IfExp, ast.Call, ast.Attribute, ast.Name, ast.Subscript, ast.Slice, ast.ListComp)
OTHER_EXPRESSIONS = (ast.Lambda, ast.Set)


class File:
    def __init__(self, path, data):
        self.path = path
        self.text = data.decode("utf-8", errors="replace")
        self.encoded = self.text.encode("utf-8") == data
        self.lines = self.text.split("\n")
        self.tree = ast.parse(self.text)
        self.nodes = list(ast.walk(self.tree))
        self.parent = {child: node for node in self.nodes for child in ast.iter_child_nodes(node)}
        self.functions = self.of(ast.FunctionDef)

    def of(self, *kinds):
        return [node for node in self.nodes if isinstance(node, kinds)]

    def lines_of(self, *kinds):
        return [node.lineno for node in self.of(*kinds)]

    def names_with_lines(self):
        for node in self.of(ast.Name):
            yield node.id, node.lineno
        for node in self.of(ast.arg):
            yield node.arg, node.lineno
        for node in self.of(ast.FunctionDef, ast.ClassDef):
            yield node.name, node.lineno

    def attributes_with_lines(self):
        return [(node.attr, node.lineno) for node in self.of(ast.Attribute)]

    def calls_with_names(self):
        for node in self.of(ast.Call):
            if isinstance(node.func, ast.Name):
                yield node.func.id, node

    def top_names(self):
        for node in self.tree.body:
            if isinstance(node, (ast.FunctionDef, ast.ClassDef)):
                yield node.name, node.lineno
            elif isinstance(node, ast.Assign):
                yield from [(x.id, x.lineno) for x in node.targets if isinstance(x, ast.Name)]


def is_text(node):
    return isinstance(node, ast.Constant) and isinstance(node.value, str)


def is_docstring(file, node):
    return isinstance(node, ast.Expr) and is_text(node.value) and node is file.tree.body[0]


def is_plain(node):
    if isinstance(node, ast.UnaryOp) and isinstance(node.op, ast.USub):
        node = node.operand
    if isinstance(node, ast.Constant):
        return node.value is None or isinstance(node.value, (int, str))
    if isinstance(node, ast.Dict):
        return all(is_plain(part) for part in node.keys + node.values)
    return isinstance(node, (ast.Tuple, ast.List)) and all(is_plain(part) for part in node.elts)


def local_names(function):
    named = [node.arg for node in ast.walk(function) if isinstance(node, ast.arg)]
    stored = [node.id for node in ast.walk(function)
              if isinstance(node, ast.Name) and isinstance(node.ctx, ast.Store)]
    return set(named + stored)


def files(file):
    if not file.encoded or not re.fullmatch(r"(\w+/)*\w+\.py", file.path, re.ASCII):
        yield 1


def imports(file):
    yield from file.lines_of(ast.Import, ast.ImportFrom)


def top_of_a_module(file):
    for node in file.tree.body:
        if isinstance(node, (ast.FunctionDef, ast.ClassDef, ast.Import, ast.ImportFrom)) or is_docstring(file, node):
            continue
        if not isinstance(node, ast.Assign) or not is_plain(node.value) or not isinstance(node.targets[0], ast.Name):
            yield node.lineno


def functions(file):
    yield from file.lines_of(ast.Lambda, ast.AsyncFunctionDef)
    for node in file.functions:
        a = node.args
        if a.vararg or a.kwarg or a.kwonlyargs or a.posonlyargs or node.decorator_list:
            yield node.lineno
        if not isinstance(file.parent[node], ast.Module) or not all(is_plain(value) for value in a.defaults):
            yield node.lineno


def classes(file):
    yield from file.lines_of(ast.ClassDef)


def statements(file):
    for node in file.of(ast.stmt):
        if not isinstance(node, STATEMENTS + OTHER_STATEMENTS):
            yield node.lineno
        if isinstance(node, (ast.For, ast.While)) and node.orelse:
            yield node.lineno
        if isinstance(node, ast.Assign) and (
                len(node.targets) > 1 or not isinstance(node.targets[0], (ast.Name, ast.Subscript))):
            yield node.lineno
        if isinstance(node, ast.Expr) and not isinstance(node.value, ast.Call) and not is_docstring(file, node):
            yield node.lineno


def expressions(file):
    for node in file.of(ast.expr):
        if not isinstance(node, EXPRESSIONS + OTHER_EXPRESSIONS):
            yield node.lineno
        if isinstance(node, ast.Constant) and not (node.value is None or isinstance(node.value, (int, str))):
            yield node.lineno
        if isinstance(node, ast.ListComp) and (len(node.generators) > 1 or len(node.generators[0].ifs) > 1):
            yield node.lineno
        if isinstance(node, ast.Dict) and None in node.keys:
            yield node.lineno
    for node in file.of(ast.BinOp, ast.AugAssign):
        if isinstance(node.op, (ast.Div, ast.MatMult)):
            yield node.lineno


def python_names(file):
    top = {name for name, line in file.top_names()}
    inside = {node for function in file.functions for node in ast.walk(function)}
    for function in file.functions:
        known = top | local_names(function) | set(PYTHON_NAMES)
        for node in ast.walk(function):
            if isinstance(node, ast.Name) and node.id not in known:
                yield node.lineno
    for node in file.of(ast.Name):
        if node not in inside and node.id not in top | set(PYTHON_NAMES):
            yield node.lineno
    for name, line in file.top_names():
        if hasattr(builtins, name) or (name.startswith("__") and name not in ("__all__", "__version__")):
            yield line
    for name, line in file.attributes_with_lines():
        if name in ("format", "format_map", "mro") or name.startswith("__"):
            yield line


def input_and_output(file):
    if file.path.endswith("__main__.py"):
        yield 1
    yield from [line for name, line in file.names_with_lines() if name in ("print", "open", "input", "sys")]


def size(file):
    if len(file.text.splitlines()) > 400:
        yield 401
    for number, line in enumerate(file.lines, start=1):
        if len(line) > 120 or "\t" in line:
            yield number
    for node in file.functions:
        if node.end_lineno - node.lineno + 1 > 40:
            yield node.lineno


def same_on_both(file):
    """No set, and no def that calls itself, in whatever many steps."""
    yield from sets(file)
    defined = {node.name: node for node in file.functions}
    called = {name: {part.id for part in ast.walk(node) if isinstance(part, ast.Name) and part.id in defined}
              for name, node in defined.items()}
    for name, node in defined.items():
        reached, ahead = set(), [name]
        while ahead:
            for other in called[ahead.pop()] - reached:
                reached.add(other)
                ahead.append(other)
        if name in reached:
            yield node.lineno


def plain_names(file):
    for name, line in file.names_with_lines():
        if not re.fullmatch(r"[A-Za-z]\w*", name, re.ASCII):
            yield line


def two_forms(file):
    yield from file.lines_of(ast.Set, ast.Lambda)


def files_and_signs(file):
    for part in file.path[:-len(".py")].split("/"):
        if part in ("__init__", "__main__"):
            continue
        if part != part.lower() or part in BANNED_FILES + BANNED_WORDS or part.startswith("test_"):
            yield 1
        if hasattr(builtins, part):
            yield 1
    for number, line in enumerate(file.lines, start=1):
        if not re.fullmatch("[ -~]*", line):
            yield number


def each_name_once(file):
    bound = set()
    for name, line in file.top_names():
        if name in bound:
            yield line
        bound.add(name)
    for node in file.tree.body:
        # A list or dict of a file's top might be changed; a tuple can't be.
        if isinstance(node, ast.Assign) and [x for x in ast.walk(node) if isinstance(x, (ast.List, ast.Dict))]:
            yield node.lineno
    for function in file.functions:
        if [name for name in local_names(function) if hasattr(builtins, name)]:
            yield function.lineno


def nothing_drawn_together(file):
    yield from imports(file)
    if file.path.endswith("__init__.py"):
        yield from [node.lineno for node in file.tree.body if not is_docstring(file, node)]


def names_not_used(file):
    for name, line in file.names_with_lines():
        if name in BANNED_NAMES + BANNED_ANYWHERE:
            yield line
    for name, line in file.attributes_with_lines():
        if name in BANNED_ANYWHERE or re.match("(f|tb|co|gi|cr)_", name):
            yield line
    for number, line in enumerate(file.lines, start=1):
        if set(re.findall(r"\w+", line)) & set(BANNED_WORDS) or [part for part in BANNED_PARTS if part in line]:
            yield number


def errors(file):
    yield from file.lines_of(ast.Try, ast.TryStar, ast.Raise)
    yield from [line for name, line in file.names_with_lines() if name in OWN_ERRORS]


def beside_is(file):
    for node in file.of(ast.Compare):
        sides = [node.left] + node.comparators
        for place, operator in enumerate(node.ops):
            written = [x for x in sides[place:place + 2]
                       if isinstance(x, ast.Constant) and (x.value is None or isinstance(x.value, bool))]
            if isinstance(operator, (ast.Is, ast.IsNot)) and not written:
                yield node.lineno


def annotations(file):
    yield from file.lines_of(ast.AnnAssign)
    yield from [node.lineno for node in file.of(ast.arg) if node.annotation]
    yield from [node.lineno for node in file.functions if node.returns]


def as_they_are_called(file):
    for node in file.of(ast.Name):
        parent = file.parent[node]
        called = isinstance(parent, ast.Call) and parent.func is node
        key = isinstance(parent, ast.keyword) and parent.arg == "key" and node.id in KEYS
        if node.id in PYTHON_NAMES and not called and not key and not beside_isinstance(file, node):
            yield node.lineno
    for node in file.of(ast.Call):
        name = node.func.id if isinstance(node.func, ast.Name) else None
        own = name is not None and name not in PYTHON_NAMES
        for keyword in node.keywords:
            if not own and keyword.arg not in KEYWORDS.get(name, ()):
                yield node.lineno
            if keyword.arg in ("reverse", "strict") and not isinstance(keyword.value, ast.Constant):
                yield node.lineno


def beside_isinstance(file, node):
    parent = file.parent[node]
    if isinstance(parent, ast.Tuple):
        node, parent = parent, file.parent[parent]
    return (isinstance(parent, ast.Call) and isinstance(parent.func, ast.Name) and parent.func.id == "isinstance"
            and parent.args[1:] == [node])


def is_walk(node):
    if not isinstance(node, ast.Call):
        return False
    if isinstance(node.func, ast.Name):
        return node.func.id in WALKS
    return isinstance(node.func, ast.Attribute) and node.func.attr in WALK_METHODS


def is_walked_on_the_spot(file, node):
    parent = file.parent[node]
    if isinstance(parent, (ast.For, ast.comprehension)):
        return parent.iter is node
    if not isinstance(parent, ast.Call) or parent.args[:1] != [node]:
        return False
    if isinstance(parent.func, ast.Attribute):
        return parent.func.attr == "join" and is_text(parent.func.value)
    return parent.func.id in WALKERS or (parent.func.id in ("min", "max") and len(parent.args) == 1)


def changed_names(node):
    if isinstance(node, ast.Subscript) and isinstance(node.ctx, ast.Store):
        return [x.id for x in ast.walk(node.value) if isinstance(x, ast.Name)]
    if isinstance(node, ast.AugAssign) and isinstance(node.target, ast.Name):
        return [node.target.id]
    if isinstance(node, ast.Call) and isinstance(node.func, ast.Attribute) and node.func.attr in CHANGING:
        return [x.id for x in ast.walk(node.func.value) if isinstance(x, ast.Name)]
    return []


def walked_names(node):
    if isinstance(node, ast.Call) and is_walk(node):
        inner = node.args if isinstance(node.func, ast.Name) else [node.func.value]
        # The bounds of a range are numbers: they are read once, and what they came from is not walked.
        if isinstance(node.func, ast.Name) and node.func.id == "range":
            inner = []
        return [name for part in inner for name in walked_names(part)]
    return [node.id] if isinstance(node, ast.Name) else []


def walked_at_once(file):
    for node in file.of(ast.Call):
        if is_walk(node) and not is_walked_on_the_spot(file, node):
            yield node.lineno
    for loop in file.of(ast.For):
        walked = walked_names(loop.iter)
        for part in [x for statement in loop.body for x in ast.walk(statement)]:
            if set(changed_names(part)) & set(walked):
                yield part.lineno


def sets(file):
    yield from file.lines_of(ast.Set, ast.SetComp)
    yield from [line for name, line in file.names_with_lines() if name in ("set", "frozenset")]


def methods(file):
    for node in file.of(ast.Attribute):
        parent = file.parent[node]
        if node.attr not in METHODS or not isinstance(parent, ast.Call) or parent.func is not node:
            yield node.lineno


def own_values(file):
    yield from file.lines_of(ast.ClassDef)
    yield from [node.lineno for node in file.of(ast.Attribute) if isinstance(node.ctx, ast.Store)]


def numbers_and_texts(file):
    for node in file.of(ast.BinOp, ast.AugAssign):
        power = node.right if isinstance(node, ast.BinOp) else node.value
        if isinstance(node.op, ast.Pow) and not (isinstance(power, ast.Constant) and power.value in range(65)):
            yield node.lineno
    yield from [node.lineno for node in file.of(ast.Constant) if is_text(node) and "%" in node.value]
    yield from [line for name, line in file.names_with_lines() if name == "chr"]
    yield from file.lines_of(ast.JoinedStr)
    for token in tokenize.generate_tokens(io.StringIO(file.text).readline):
        if token.type == tokenize.NUMBER and len(token.string) > 900:
            yield token.start[0]
        if token.type == tokenize.STRING and (
                token.string[0] not in "'\"" or re.search(r"\\[^nt\\'\"]", token.string.replace("\\\\", ""))):
            yield token.start[0]


def methods_with_underscores(file):
    yield from [node.lineno for node in file.functions if node.name.startswith("__")]


RULES = {
    "L1": files, "L2": imports, "L3": top_of_a_module, "L4": functions, "L5": classes, "L6": statements,
    "L7": expressions, "L8": python_names, "L9": input_and_output, "L10": size, "L11": same_on_both,
    "L12": plain_names, "L13": two_forms, "L14": files_and_signs, "L15": each_name_once,
    "L16": nothing_drawn_together, "L17": names_not_used, "L18": classes, "L19": errors, "L20": beside_is,
    "L21": annotations, "L22": as_they_are_called, "L23": walked_at_once, "L24": sets, "L25": methods,
    "L26": own_values, "L27": numbers_and_texts, "L28": methods_with_underscores,
}


def faults(path, data):
    """What breaks a rule in one file of the package: a list of (rule, line)."""
    # What is not a .py file can't be read further.
    if not path.endswith(".py"):
        return [("L1", 1)]
    file = File(path, data)
    return [(rule, line) for rule, check in RULES.items() for line in sorted(set(check(file)))]
