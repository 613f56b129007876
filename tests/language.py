"""LANGUAGE.md rule by rule: where a package's files break one.

Where a rule allows what the package has no need of (try, sets, recursion, annotations, lists and dicts at a file's
top, methods with two underscores but __init__), what is looked for here is narrower than the rule.
"""

import ast
import builtins
import io
import re
import tokenize

OWN_NAMES = set(
    "len range enumerate zip min max sum abs sorted reversed int str bool list tuple dict set frozenset isinstance "
    "ord repr any all divmod".split()
)
ERRORS = set(
    "Exception ValueError TypeError KeyError IndexError LookupError ZeroDivisionError ArithmeticError OverflowError "
    "RuntimeError NotImplementedError AttributeError StopIteration".split()
)
METHODS = set(
    "append clear copy count endswith extend find get index insert isalnum isalpha isdigit islower isspace isupper "
    "items join keys ljust lower lstrip partition pop remove replace reverse rfind rjust rpartition rsplit rstrip "
    "setdefault split splitlines startswith strip update upper values zfill bit_length".split()
)
CHANGING = set("append clear extend insert pop remove reverse setdefault update".split())
TWO_UNDERSCORES = set("__init__ __eq__ __repr__ __str__ __len__".split())
NOWHERE = set(
    "register mro elements open input version_info with_traceback add_note f_back f_builtins f_code f_globals f_lasti "
    "f_lineno f_locals f_trace tb_frame tb_lasti tb_lineno tb_next co_code co_consts co_names co_varnames".split()
)
NO_NAMES = set(
    "attrgetter breakpoint builtins compile copyright credits delattr dir eval exec exit gc getattr globals hasattr "
    "help id importlib license locals methodcaller os quit setattr super type vars sys __name__".split()
)
WORD_LIST = (
    "type typing typing_extensions enum Enum IntEnum StrEnum Flag IntFlag Generic Protocol ABC ABCMeta namedtuple "
    "NamedTuple TypedDict TYPE_CHECKING abstractmethod"
).split()
WORDS = re.compile(r"\b(" + "|".join(WORD_LIST) + r")\b|dataclass|overload|contextmanager")
FILE_NAMES = set("test tests testing site conftest sitecustomize usercustomize".split()) | set(WORD_LIST)
VALUES_ALLOWED = set("count index title find get join lower upper split strip copy add".split())
KEYWORDS = {
    "sorted": {"key", "reverse"}, "min": {"key", "default"}, "max": {"key", "default"}, "sum": {"start"},
    "enumerate": {"start"}, "zip": {"strict"},
}
WALKED = set("zip enumerate reversed range".split())
WALKED_METHODS = set("items keys values".split())
WALKERS = set("list tuple dict sorted sum any all enumerate zip".split())

STATEMENTS = (
    ast.FunctionDef, ast.ClassDef, ast.ImportFrom, ast.Assign, ast.AugAssign, ast.If, ast.While, ast.For, ast.Return,
    ast.Break, ast.Continue, ast.Pass, ast.Raise, ast.Try, ast.Expr,
)
EXPRESSIONS = (
    ast.Constant, ast.List, ast.Tuple, ast.Dict, ast.Set, ast.BinOp, ast.UnaryOp, ast.BoolOp, ast.Compare, ast.IfExp,
    ast.Call, ast.Attribute, ast.Subscript, ast.Slice, ast.ListComp, ast.JoinedStr, ast.FormattedValue, ast.Lambda,
    ast.Name,
)


class File:
    def __init__(self, path, text):
        self.path = path
        self.text = text
        self.tree = ast.parse(text)
        self.nodes = list(ast.walk(self.tree))
        self.parents = {child: node for node in self.nodes for child in ast.iter_child_nodes(node)}

    def all(self, *kinds):
        return [node for node in self.nodes if isinstance(node, kinds)]

    def defs(self):
        return self.all(ast.FunctionDef, ast.Lambda)

    def module(self):
        return self.path.removesuffix(".py").replace("/", ".").removesuffix(".__init__")

    def top(self):
        """The names of the file's top, one for each time that one is bound, with the node."""
        for node in self.tree.body:
            if isinstance(node, (ast.FunctionDef, ast.ClassDef)):
                yield node.name, node
            elif isinstance(node, ast.Assign):
                yield from ((name.id, node) for name in ast.walk(node.targets[0]) if isinstance(name, ast.Name))
            elif isinstance(node, ast.ImportFrom):
                yield from ((alias.asname or alias.name, node) for alias in node.names)

    def locals(self):
        """The parameters and the names that are given a value within a def."""
        for node in self.defs():
            for inner in ast.walk(node):
                if isinstance(inner, ast.arg):
                    yield inner.arg, inner
                elif isinstance(inner, ast.Name) and isinstance(inner.ctx, ast.Store):
                    yield inner.id, inner

    def bound(self):
        yield from self.top()
        yield from self.locals()
        for node in self.all(ast.FunctionDef, ast.ClassDef):
            yield node.name, node
        for node in self.all(ast.Attribute):
            if isinstance(node.ctx, ast.Store):
                yield node.attr, node

    def methods(self):
        for node in self.all(ast.ClassDef):
            for inner in node.body:
                if isinstance(inner, ast.FunctionDef):
                    yield inner.name, inner

    def values(self):
        for node in self.all(ast.Attribute):
            if isinstance(node.ctx, ast.Store):
                yield node.attr, node


def plain(node, functions=()):
    if isinstance(node, ast.UnaryOp) and isinstance(node.op, ast.USub):
        node = node.operand
    if isinstance(node, (ast.List, ast.Tuple)):
        return all(plain(inner, functions) for inner in node.elts)
    if isinstance(node, ast.Dict):
        return all(plain(inner, functions) for inner in node.keys + node.values)
    if isinstance(node, ast.Name):
        return node.id in functions
    return isinstance(node, ast.Constant) and isinstance(node.value, (int, str, type(None)))


def is_call(node, names):
    return isinstance(node, ast.Call) and isinstance(node.func, ast.Name) and node.func.id in names


def l2(file):
    for node in file.all(ast.Import):
        yield node
    for node in file.all(ast.ImportFrom):
        own = node.level == 0 and node.module.startswith("turnedsum.") and not node.module.endswith("__main__")
        future = node.module == "__future__" and [alias.name for alias in node.names] == ["annotations"]
        if node not in file.tree.body or not (own or future) or any(alias.name == "*" for alias in node.names):
            yield node


def l3(file):
    functions = []
    for place, node in enumerate(file.tree.body):
        docstring = place == 0 and isinstance(node, ast.Expr) and isinstance(getattr(node.value, "value", 0), str)
        given = isinstance(node, ast.Assign) and isinstance(node.targets[0], ast.Name) and plain(node.value, functions)
        if isinstance(node, ast.FunctionDef):
            functions.append(node.name)
        elif not (docstring or given or isinstance(node, (ast.ImportFrom, ast.ClassDef))):
            yield node


def l4(file):
    for node in file.defs():
        told = node.args
        if told.vararg or told.kwarg or told.kwonlyargs or told.posonlyargs or getattr(node, "decorator_list", []):
            yield node
        if not all(plain(default) for default in told.defaults):
            yield node


def l5(file):
    for node in file.all(ast.ClassDef):
        if len(node.bases) > 1 or node.keywords or node.decorator_list:
            yield node
        for inner in node.body:
            if not isinstance(inner, ast.FunctionDef):
                yield inner
            elif inner.name.startswith("__") and inner.name not in TWO_UNDERSCORES:
                yield inner


def l6(file):
    for node in file.all(ast.stmt):
        if not isinstance(node, STATEMENTS):
            yield node
        if isinstance(node, (ast.For, ast.While)) and node.orelse:
            yield node
        if isinstance(node, ast.Try) and (node.finalbody or any(not handler.type for handler in node.handlers)):
            yield node
        if isinstance(node, ast.Assign):
            if len(node.targets) > 1 or isinstance(node.targets[0], (ast.Tuple, ast.List)):
                yield node
        if isinstance(node, ast.Expr) and node is not file.tree.body[0] and not isinstance(node.value, ast.Call):
            yield node


def l7(file):
    for node in file.all(ast.expr):
        if not isinstance(node, EXPRESSIONS):
            yield node
        if isinstance(node, ast.Constant) and not isinstance(node.value, (int, str, type(None))):
            yield node
        if isinstance(node, ast.ListComp) and (len(node.generators) > 1 or len(node.generators[0].ifs) > 1):
            yield node
        if isinstance(node, ast.FormattedValue):
            if not isinstance(node.value, ast.Name) or node.format_spec or node.conversion not in (-1, ord("r")):
                yield node
    for node in file.all(ast.BinOp, ast.AugAssign):
        if isinstance(node.op, (ast.Div, ast.MatMult)):
            yield node


def l8(file):
    bound = {name for name, node in file.bound()}
    for node in file.all(ast.Name):
        if node.id not in bound | OWN_NAMES | ERRORS:
            yield node
    for name, node in list(file.top()) + list(file.locals()):
        if name in OWN_NAMES | ERRORS | {"print"} or name.startswith("__"):
            yield node
    for node in file.all(ast.Attribute):
        if node.attr in ("format", "format_map", "mro") or node.attr.startswith("__"):
            if node.attr not in ("__init__", "__name__"):
                yield node


def l9(file):
    for node in file.all(ast.Name):
        if node.id in ("print", "input", "open", "sys"):
            yield node


def l10(file):
    lines = file.text.split("\n")
    if len(lines) > 401 or max(len(line) for line in lines) > 120 or "\t" in file.text:
        yield file.tree
    for node in file.all(ast.FunctionDef):
        if node.end_lineno - node.lineno + 1 > 40:
            yield node


def l11(file):
    calls = {}
    for node in file.all(ast.FunctionDef):
        for inner in ast.walk(node):
            if isinstance(inner, ast.Call):
                name = getattr(inner.func, "id", getattr(inner.func, "attr", ""))
                calls.setdefault(node.name, set()).add(name)
    for node in file.all(ast.FunctionDef):
        seen = set()
        ahead = set(calls.get(node.name, ()))
        while ahead:
            name = ahead.pop()
            seen.add(name)
            ahead |= calls.get(name, set()) - seen
        if node.name in seen:
            yield node


def l12(file):
    for name, node in file.bound():
        if name not in TWO_UNDERSCORES and not re.fullmatch("[A-Za-z][A-Za-z0-9_]*", name):
            yield node


def l13(file):
    for node in file.all(ast.Set):
        around = file.parents[node]
        on_the_spot = isinstance(around, ast.Compare) and isinstance(around.ops[-1], (ast.In, ast.NotIn))
        if len(node.elts) >= 3 and not on_the_spot:
            yield node
    seen = []
    for node in file.all(ast.Lambda):
        form = (node.lineno, [told.arg for told in node.args.args])
        if form in seen:
            yield node
        seen.append(form)


def l15(file):
    seen = []
    for name, node in file.top():
        if name in seen:
            yield node
        seen.append(name)
    for node in file.tree.body:
        if isinstance(node, ast.Assign) and any(isinstance(inner, (ast.List, ast.Dict)) for inner in ast.walk(node)):
            yield node
    for node in file.all(ast.ClassDef):
        if node not in file.tree.body:
            yield node
    taken = {name for name, node in file.top() if isinstance(node, (ast.ClassDef, ast.ImportFrom))}
    for name, node in file.locals():
        if name in taken or name in dir(builtins):
            yield node


def l17(file):
    for node in file.all(ast.Name):
        if node.id in NOWHERE | NO_NAMES:
            yield node
    for node in file.all(ast.Attribute):
        if node.attr in NOWHERE:
            yield node
    for name, node in file.bound():
        if name in NOWHERE or name in NO_NAMES and not isinstance(node, ast.Attribute):
            yield node
    if WORDS.search(file.text):
        yield file.tree


def l18(file):
    classes = [node.name for node in file.all(ast.ClassDef)]
    tops = {name for name, node in file.top()}
    for node in file.all(ast.Name):
        around = file.parents[node]
        called = isinstance(around, ast.Call) and around.func is node
        based = isinstance(around, (ast.ClassDef, ast.ExceptHandler, ast.Raise))
        asked = is_call(around, ["isinstance"]) or isinstance(around, ast.Attribute) and around.attr == "__init__"
        if node.id in classes and not (called or based or asked):
            yield node
    for name, node in file.values():
        if not isinstance(node.value, ast.Name) or node.value.id in tops:
            yield node
    for node in file.all(ast.ClassDef):
        names = [inner.name for inner in node.body if isinstance(inner, ast.FunctionDef)]
        if len(names) != len(set(names)):
            yield node
        if any(getattr(base, "id", "") in ("StopIteration", "AttributeError") for base in node.bases):
            yield node


def l19(file):
    yield from file.all(ast.Try, ast.Raise)


def l20(file):
    for node in file.all(ast.Compare):
        sides = [node.left] + node.comparators
        plain_side = any(isinstance(side, ast.Constant) and side.value in (None, True, False) for side in sides)
        if any(isinstance(op, (ast.Is, ast.IsNot)) for op in node.ops) and not plain_side:
            yield node


def l21(file):
    yield from file.all(ast.AnnAssign)
    for node in file.all(ast.arg):
        if node.annotation:
            yield node
    for node in file.all(ast.FunctionDef):
        if node.returns:
            yield node


def l22(file):
    for node in file.all(ast.Name):
        around = file.parents[node]
        called = isinstance(around, ast.Call) and around.func is node
        key = isinstance(around, ast.keyword) and around.arg == "key"
        asked = is_call(around, ["isinstance"]) or isinstance(around, ast.Tuple) and is_call(
            file.parents.get(around), ["isinstance"])
        if node.id in OWN_NAMES and not (called or key or asked):
            yield node
    own = {name for name, node in file.top()} - OWN_NAMES
    for node in file.all(ast.Call):
        name = getattr(node.func, "id", "")
        if name not in own and {told.arg for told in node.keywords} - KEYWORDS.get(name, set()):
            yield node


def walked_at_once(file, node):
    around = file.parents[node]
    if isinstance(around, (ast.For, ast.comprehension)):
        return around.iter is node
    if is_call(around, WALKERS):
        return around.args[0] is node or around.func.id == "zip"
    if is_call(around, {"min", "max"}):
        return around.args == [node]
    return isinstance(around, ast.Call) and getattr(around.func, "attr", "") == "join"


def names_walked(node):
    if isinstance(node, ast.Call):
        told = node.args + ([node.func.value] if isinstance(node.func, ast.Attribute) else [])
        return [name for inner in told for name in names_walked(inner)]
    return [ast.dump(node)] if isinstance(node, (ast.Name, ast.Attribute)) else []


def changed_in(node):
    for inner in ast.walk(node):
        if isinstance(inner, ast.Call) and getattr(inner.func, "attr", "") in CHANGING:
            yield ast.dump(inner.func.value)
        if isinstance(inner, ast.Subscript) and isinstance(inner.ctx, ast.Store):
            yield ast.dump(inner.value)


def l23(file):
    for node in file.all(ast.Call):
        of_method = isinstance(node.func, ast.Attribute) and node.func.attr in WALKED_METHODS
        if (is_call(node, WALKED) or of_method) and not walked_at_once(file, node):
            yield node
    for node in file.all(ast.For):
        changed = {name for inner in node.body for name in changed_in(inner)}
        # list(xs) is another list; range and len only ask it.
        if not is_call(node.iter, {"list", "sorted", "tuple", "range"}) and changed & set(names_walked(node.iter)):
            yield node


def l24(file):
    yield from file.all(ast.Set, ast.SetComp)
    for node in file.all(ast.Name):
        if node.id in ("set", "frozenset"):
            yield node


def l25(file):
    methods = {name for name, node in file.methods()}
    values = {name for name, node in file.values()}
    for node in file.all(ast.Attribute):
        around = file.parents[node]
        called = isinstance(around, ast.Call) and around.func is node
        key = isinstance(around, ast.keyword) and around.arg == "key"
        if called and node.attr not in methods | METHODS or not called and not key and node.attr not in values:
            yield node


def l26(file):
    pythons = {name for kind in (str, int, list, dict, set, bytes, tuple) for name in dir(kind)}
    for name, node in file.methods():
        if name in pythons - METHODS - TWO_UNDERSCORES - {"add", "discard"}:
            yield node
    for name, node in file.values():
        if name in pythons - VALUES_ALLOWED or name == "args":
            yield node


def l27(file):
    for node in file.all(ast.BinOp, ast.AugAssign):
        exponent = node.right if isinstance(node, ast.BinOp) else node.value
        if isinstance(node.op, ast.Pow) and getattr(exponent, "value", -1) not in range(65):
            yield node
    for node in file.all(ast.Constant):
        if isinstance(node.value, str) and "%" in node.value:
            yield node
        if isinstance(node.value, int) and node.value >= 10 ** 900:
            yield node
    for node in file.all(ast.Name):
        if node.id == "chr":
            yield node
    for token in tokenize.generate_tokens(io.StringIO(file.text).readline):
        texts = ("STRING", "FSTRING_MIDDLE")
        if tokenize.tok_name[token.type] in texts and re.search(r"\\[^nt\\'\"]", token.string.replace("\\\\", "")):
            yield file.tree


def l28(file):
    for name, node in file.methods():
        if name in TWO_UNDERSCORES - {"__init__"}:
            yield node
        for inner in ast.walk(node):
            if name == "__init__" and isinstance(inner, ast.Return) and inner.value:
                yield inner


PLAIN_NAME = "[A-Za-z0-9][A-Za-z0-9_]*"
PLAIN_PATH = re.compile(rf"turnedsum(/{PLAIN_NAME})*/({PLAIN_NAME}|__init__|__main__)\.py")


def of_paths(paths):
    """L1 and L14 as far as they speak of names."""
    folders = {path.rpartition("/")[0] for path in paths}
    for path in paths:
        parts = path.split("/")
        name = parts[-1].removesuffix(".py")
        if not PLAIN_PATH.fullmatch(path):
            yield "L1", path
        for part in parts[1:-1] + [name]:
            if part != part.lower() or part in FILE_NAMES or part in dir(builtins) or part.startswith("test_"):
                yield "L14", path
        if name == "__main__" and len(parts) != 2:
            yield "L14", path
    for folder in folders:
        if folder + "/__init__.py" not in paths:
            yield "L14", folder


def drawn_from(file, modules):
    for node in file.all(ast.ImportFrom):
        parts = (node.module or "").split(".")
        # The __init__ of every folder above counts as drawn from too.
        for end in range(1, len(parts) + 1):
            if ".".join(parts[:end]) in modules:
                yield ".".join(parts[:end])


def of_imports(files):
    """L16, which speaks of several files at once."""
    modules = {file.module(): file for file in files}
    draws = {name: set(drawn_from(file, modules)) for name, file in modules.items()}
    for name, file in modules.items():
        seen = set()
        ahead = set(draws[name])
        while ahead:
            other = ahead.pop()
            seen.add(other)
            ahead |= draws[other] - seen
        if name in seen:
            yield "L16", file.path
        for node in file.all(ast.ImportFrom):
            there = modules.get(node.module)
            tops = there.top() if there else ()
            defined = {told for told, inner in tops if not isinstance(inner, ast.ImportFrom)}
            if node.module != "__future__" and any(alias.name not in defined for alias in node.names):
                yield "L16", file.path
        below = {other.rpartition(".")[2] for other in modules if other.rpartition(".")[0] == name}
        if file.path.endswith("__init__.py") and below & {told for told, node in file.top()}:
            yield "L16", file.path


def of_all_names(files):
    """L18's row over the whole package: a method in one class and a value in another."""
    methods = {name for file in files for name, node in file.methods()}
    for file in files:
        if methods & {name for name, node in file.values()}:
            yield "L18", file.path


BY_FILE = {
    "L2": l2, "L3": l3, "L4": l4, "L5": l5, "L6": l6, "L7": l7, "L8": l8, "L9": l9, "L10": l10, "L11": l11, "L12": l12,
    "L13": l13, "L15": l15, "L17": l17, "L18": l18, "L19": l19, "L20": l20, "L21": l21, "L22": l22, "L23": l23,
    "L24": l24, "L25": l25, "L26": l26, "L27": l27, "L28": l28,
}


def faults(texts):
    """texts: path (turnedsum/..) to text. Gives back (rule, where) for each fault."""
    found = list(of_paths(texts))
    files = [File(path, text) for path, text in texts.items() if path.endswith(".py")]
    for file in files:
        if any(sign != "\n" and not " " <= sign <= "~" for sign in file.text):
            found.append(("L14", file.path))
        for rule, look in BY_FILE.items():
            found.extend((rule, f"{file.path}:{getattr(node, 'lineno', 1)}") for node in look(file))
    return found + list(of_imports(files)) + list(of_all_names(files))
