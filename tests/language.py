"""What a short script can see of the rules of the language subset: problems(path, text) lists what breaks them."""

import ast
import builtins
import io
import re
import tokenize

ALLOWED_BUILTINS = set(
    "len range enumerate zip min max sum abs sorted reversed int str bool bytes list tuple dict set frozenset"
    " isinstance ord repr any all divmod pow getattr hasattr setattr iter next map property staticmethod classmethod"
    " super Exception ValueError TypeError KeyError IndexError LookupError ZeroDivisionError ArithmeticError"
    " OverflowError RuntimeError NotImplementedError AttributeError StopIteration NotImplemented"
    .split()
)
ALLOWED_METHODS = set(
    "append clear copy count endswith extend find get index insert isalnum isalpha isdigit islower isspace isupper"
    " items join keys ljust lower lstrip partition pop remove replace reverse rfind rjust rpartition rsplit rstrip"
    " setdefault split splitlines startswith strip update upper values zfill bit_length title capitalize swapcase"
    " casefold center expandtabs removeprefix removesuffix rindex isascii isdecimal isnumeric istitle isidentifier"
    " isprintable format"
    .split()
)
LIBRARY = {
    "math": {"gcd", "lcm", "isqrt", "comb", "perm", "factorial"},
    "heapq": {"heappush", "heappop", "heapify", "heapreplace", "heappushpop"},
    "itertools": {
        "product", "combinations", "permutations", "chain", "accumulate", "pairwise", "islice", "zip_longest",
    },
    "collections": {"defaultdict"},
}
ALLOWED_DOUBLE = set(
    "init eq repr str len enter exit call iter lt le gt ge ne add sub mul floordiv mod pow and or xor lshift rshift"
    " radd rsub rmul rfloordiv rmod rand ror rxor rlshift rrshift iadd isub imul ifloordiv imod ipow iand ior ixor"
    " ilshift irshift neg pos invert abs bool contains getitem setitem"
    .split()
)
STATEMENTS = (
    ast.Module, ast.FunctionDef, ast.ClassDef, ast.ImportFrom, ast.Import, ast.Assign, ast.AugAssign, ast.AnnAssign,
    ast.If, ast.While, ast.For, ast.Return, ast.Break, ast.Continue, ast.Pass, ast.Raise, ast.Assert, ast.Delete,
    ast.Nonlocal, ast.Match, ast.With, ast.Try, ast.Expr,
)
ITERATED_AT_ONCE = {"zip", "enumerate", "reversed", "range", "items", "keys", "values", "map"}
TAKERS = {"list", "tuple", "dict", "sorted", "sum", "any", "all", "enumerate", "zip", "min", "max", "join"}
GENERATOR_TAKERS = {"list", "tuple", "dict", "sorted", "sum", "min", "max", "any", "all", "join"}
BARRED = set(
    "register mro elements open input law version_info with_traceback add_note attrgetter breakpoint builtins compile"
    " copyright credits delattr dir eval exec exit gc globals help id importlib license locals methodcaller os quit"
    " type vars sys"
    .split()
)
BARRED_TEXT = re.compile(
    r"\b(typing|typing_extensions|enum|Enum|IntEnum|StrEnum|Flag|IntFlag|Generic|Protocol|ABC|ABCMeta|namedtuple"
    r"|NamedTuple|TypedDict|TYPE_CHECKING|abstractmethod)\b|dataclass|overload|contextmanager"
)
BARRED_ATTRIBUTES = set(
    "items keys values pop update append clear extend insert remove reverse setdefault sort args encode decode hex"
    " fromhex format format_map mro register elements open input law"
    .split()
)
BARRED_BEGINNINGS = (
    "_wall", "_pe_", "_dcw_", "_enum_", "_cm_", "_twin_re_", "_lay_", "_law_", "_stub_", "_sre", "_WallAttr",
)


def own_functions(texts):
    """The names of all functions and methods of the package with these texts."""
    return {node.name for text in texts for node in ast.walk(ast.parse(text)) if isinstance(node, ast.FunctionDef)}


def problems(path, text, package="roundknown", own=()):
    """The list of (line, rule, words) for one file; own are the names of functions of other files."""
    found = text_problems(text) + token_problems(text)
    tree = ast.parse(text)
    for node in ast.walk(tree):
        for child in ast.iter_child_nodes(node):
            child.parent = node
    found += module_problems(tree, package) + name_problems(tree)
    for node in ast.walk(tree):
        found += statement_problems(node) + expression_problems(node) + call_problems(node, tree, own)
        if isinstance(node, (ast.FunctionDef, ast.Lambda)):
            found += function_problems(node)
    return [(path,) + problem for problem in sorted(set(found))]


def text_problems(text):
    found = []
    lines = text.split("\n")
    if len(text.splitlines()) > 399:
        found.append((400, "L10", "more than 399 lines"))
    for number, line in enumerate(lines, 1):
        if len(line) > 120:
            found.append((number, "L10", "more than 120 characters"))
        if not all(" " <= character <= "~" for character in line):
            found.append((number, "L14", "a character that is not allowed"))
        if "_wall" in line or "_WallAttr" in line:
            found.append((number, "L12", "a word that stands nowhere"))
    return found


def token_problems(text):
    found = []
    for token in tokenize.generate_tokens(io.StringIO(text).readline):
        if token.type != tokenize.STRING and token.type != tokenize.COMMENT and BARRED_TEXT.search(token.string):
            found.append((token.start[0], "L17", "a word that does not occur"))
        if token.type == tokenize.STRING:
            if "%" in token.string:
                found.append((token.start[0], "L27", "a percent sign in a string"))
            if re.search(r"\\[^nt\\'\"\n]", token.string):
                found.append((token.start[0], "L27", "an escape that is not allowed"))
        if token.type == tokenize.NUMBER and len(token.string) > 900:
            found.append((token.start[0], "L27", "a number that is too long"))
    return found


def module_problems(tree, package):
    found = []
    imports_over = False
    for place, node in enumerate(tree.body):
        docstring = place == 0 and isinstance(node, ast.Expr) and isinstance(node.value, ast.Constant)
        if isinstance(node, ast.ImportFrom):
            found += import_problems(node, package)
            if imports_over:
                found.append((node.lineno, "L2", "an import that is not at the top"))
        elif not docstring:
            imports_over = True
            plain = isinstance(node, ast.Assign) and len(node.targets) == 1 and isinstance(node.targets[0], ast.Name)
            if plain and any(isinstance(part, (ast.Call, ast.ListComp, ast.DictComp)) for part in ast.walk(node)):
                found.append((node.lineno, "L3", "a value that is not plain"))
            if not plain and not isinstance(node, (ast.FunctionDef, ast.ClassDef)):
                found.append((node.lineno, "L3", "a statement that does not stand at module level"))
    for node in ast.walk(tree):
        if isinstance(node, (ast.Import, ast.ImportFrom)) and node not in tree.body:
            found.append((node.lineno, "L2", "an import that is not at the top"))
        if isinstance(node, ast.Import):
            found.append((node.lineno, "L16", "an import of a module"))
    return found


def import_problems(node, package):
    found = []
    names = [alias.name for alias in node.names]
    own = node.module is not None and node.level == 0 and node.module.startswith(package + ".")
    if not own and not set(names) <= LIBRARY.get(node.module, set()):
        found.append((node.lineno, "L2", "an import that is not allowed"))
    if "*" in names or any(alias.asname for alias in node.names):
        found.append((node.lineno, "L2", "an import with a star or another name"))
    return found


def bound_names(tree):
    """All (name, line, node) that the file binds, but for imports, attributes and methods."""
    found = []
    for node in ast.walk(tree):
        if isinstance(node, ast.Name) and not isinstance(node.ctx, ast.Load):
            found.append((node.id, node.lineno, node))
        elif isinstance(node, ast.arg):
            found.append((node.arg, node.lineno, node))
        elif isinstance(node, ast.ClassDef):
            found.append((node.name, node.lineno, node))
        elif isinstance(node, ast.FunctionDef) and not isinstance(node.parent, ast.ClassDef):
            found.append((node.name, node.lineno, node))
        elif isinstance(node, ast.ExceptHandler) and node.name:
            found.append((node.name, node.lineno, node))
        elif isinstance(node, (ast.MatchAs, ast.MatchStar)) and node.name:
            found.append((node.name, node.lineno, node))
    return found


def name_problems(tree):
    found = []
    top = []
    for node in tree.body:
        if isinstance(node, (ast.FunctionDef, ast.ClassDef)):
            top.append((node.name, node.lineno))
        elif isinstance(node, ast.ImportFrom):
            top.extend([(alias.name, node.lineno) for alias in node.names])
        elif isinstance(node, ast.Assign):
            top.extend([(target.id, node.lineno) for target in node.targets if isinstance(target, ast.Name)])
    for place, (name, line) in enumerate(top):
        if name in [other for other, _ in top[:place]]:
            found.append((line, "L15", f"{name} is bound twice"))
    taken = {name for node in tree.body if isinstance(node, ast.ImportFrom) for name in [a.name for a in node.names]}
    taken |= {node.name for node in tree.body if isinstance(node, ast.ClassDef)}
    used = {node.id for node in ast.walk(tree) if isinstance(node, ast.Name)}
    for name in sorted(taken):
        if name not in used and name not in {node.name for node in tree.body if isinstance(node, ast.ClassDef)}:
            found.append((1, "import", f"{name} is imported and not used"))
    for name, line, node in bound_names(tree):
        if hasattr(builtins, name):
            found.append((line, "L15", f"{name} is the name of a builtin"))
        if name in BARRED or name.startswith(BARRED_BEGINNINGS):
            found.append((line, "L17", f"{name} is not used"))
        if not re.fullmatch(r"_?[A-Za-z][A-Za-z0-9_]*|_", name):
            found.append((line, "L12", f"{name} is no plain name"))
        if name in taken and not isinstance(node, ast.ClassDef):
            found.append((line, "L15", f"{name} is the name of a class or an import"))
    for node in ast.walk(tree):
        if isinstance(node, ast.Name) and node.id == "_" and isinstance(node.ctx, ast.Load):
            found.append((node.lineno, "L12", "_ is read"))
    return found


def statement_problems(node):
    found = []
    line = getattr(node, "lineno", 1)
    if isinstance(node, ast.stmt) and not isinstance(node, STATEMENTS):
        found.append((line, "L6", "a statement that is not allowed"))
    if isinstance(node, ast.Expr) and not isinstance(node.value, (ast.Call, ast.Yield, ast.YieldFrom)):
        if not (isinstance(node.value, ast.Constant) and isinstance(node.value.value, str)):
            found.append((line, "L6", "an expression on its own"))
    if isinstance(node, ast.Raise) and node.exc is not None:
        if not (isinstance(node.exc, ast.Call) and isinstance(node.exc.func, ast.Name)):
            found.append((line, "L19", "an error that is not created on the spot"))
    if isinstance(node, ast.ExceptHandler):
        names = node.type.elts if isinstance(node.type, ast.Tuple) else [node.type]
        if not names or not all(isinstance(name, ast.Name) for name in names):
            found.append((line, "L6", "an except without names"))
        barred = {"Exception", "TypeError", "ArithmeticError", "OverflowError", "RuntimeError", "AttributeError"}
        if any(isinstance(name, ast.Name) and name.id in barred for name in names):
            found.append((line, "L19", "an error that is not caught"))
    if isinstance(node, ast.AnnAssign) or getattr(node, "returns", None) or getattr(node, "annotation", None):
        found.append((line, "L21", "an annotation"))
    if isinstance(node, ast.ClassDef):
        found += class_problems(node)
    return found


def class_problems(node):
    found = []
    if node.decorator_list or node.keywords:
        found.append((node.lineno, "L5", "a class with a decorator or a keyword"))
    methods = [part.name for part in node.body if isinstance(part, ast.FunctionDef)]
    for part in ast.walk(node):
        if isinstance(part, ast.Attribute) and isinstance(part.ctx, ast.Store):
            if part.attr in methods:
                found.append((part.lineno, "L18", f"{part.attr} is a method and an attribute"))
            if part.attr in BARRED_ATTRIBUTES:
                found.append((part.lineno, "L26", f"an attribute {part.attr}"))
    for name in methods:
        if methods.count(name) > 1:
            found.append((node.lineno, "L18", f"the method {name} is defined twice"))
    return found


def expression_problems(node):
    found = []
    line = getattr(node, "lineno", 1)
    if isinstance(node, ast.Constant) and isinstance(node.value, (float, complex)):
        found.append((line, "L7", "a float"))
    if isinstance(node, (ast.BinOp, ast.AugAssign)):
        if isinstance(node.op, (ast.Div, ast.MatMult)):
            found.append((line, "L7", "an operator that is not allowed"))
        if isinstance(node.op, ast.Pow):
            power = node.right if isinstance(node, ast.BinOp) else node.value
            if not (isinstance(power, ast.Constant) and isinstance(power.value, int) and 0 <= power.value <= 64):
                found.append((line, "L27", "an exponent that is no literal from 0 to 64"))
    if isinstance(node, (ast.Await, ast.Set, ast.SetComp)):
        found.append((line, "L24", "a set, or await"))
    if isinstance(node, ast.Compare):
        sides = [node.left] + node.comparators
        for place, operator in enumerate(node.ops):
            if isinstance(operator, (ast.Is, ast.IsNot)):
                right = sides[place + 1]
                if not (isinstance(right, ast.Constant) and right.value in (None, True, False)):
                    found.append((line, "L20", "is beside something else than None, True or False"))
    if isinstance(node, ast.GeneratorExp):
        call = node.parent
        name = call_name(call) if isinstance(call, ast.Call) else None
        if name not in GENERATOR_TAKERS:
            found.append((line, "L7", "a generator expression that is not taken at once"))
    if isinstance(node, (ast.ListComp, ast.DictComp)) and not inside_function(node):
        found.append((line, "L7", "a comprehension outside of functions"))
    if isinstance(node, ast.Attribute) and node.attr.startswith("__") and node.attr != "__init__":
        found.append((line, "L8", "an attribute with two underscores"))
    if isinstance(node, ast.JoinedStr) and node.lineno != node.end_lineno:
        found.append((line, "L27", "an f-string over two lines"))
    return found


def call_name(node):
    """The name of what is called: a bare name or the name of a method."""
    if isinstance(node.func, ast.Name):
        return node.func.id
    return node.func.attr if isinstance(node.func, ast.Attribute) else None


def inside_function(node):
    while not isinstance(node, ast.Module):
        if isinstance(node, (ast.FunctionDef, ast.Lambda)):
            return True
        node = node.parent
    return False


def call_problems(node, tree, others):
    found = []
    line = getattr(node, "lineno", 1)
    if isinstance(node, ast.Name) and isinstance(node.ctx, ast.Load) and hasattr(builtins, node.id):
        if node.id not in ALLOWED_BUILTINS:
            found.append((line, "L8", f"the builtin {node.id}"))
        called = isinstance(node.parent, ast.Call) and node.parent.func is node
        if node.id[0].islower() and not called and not allowed_as_value(node):
            found.append((line, "L22", f"the builtin {node.id} as a value"))
    if not isinstance(node, ast.Call):
        return found
    name = call_name(node)
    own = {item.name for item in ast.walk(tree) if isinstance(item, ast.FunctionDef)} | set(others)
    if isinstance(node.func, ast.Attribute) and name not in ALLOWED_METHODS and name not in own:
        if name != "__init__":
            found.append((line, "L25", f"the method {name}"))
    if isinstance(node.func, ast.Name) and name in ("set", "frozenset", "chr"):
        found.append((line, "L24", f"a call of {name}"))
    if isinstance(node.func, ast.Name) and hasattr(builtins, name):
        allowed = {"key", "reverse", "default", "start", "strict"}
        if not {keyword.arg for keyword in node.keywords} <= allowed:
            found.append((line, "L22", f"a keyword of {name}"))
    if name in ITERATED_AT_ONCE and (isinstance(node.func, ast.Attribute) or hasattr(builtins, name)):
        if not taken_at_once(node, name):
            found.append((line, "L23", f"{name} is not iterated at once"))
    return found


def allowed_as_value(node):
    parent = node.parent
    if isinstance(parent, ast.FunctionDef) and node in parent.decorator_list:
        return True
    if isinstance(parent, ast.keyword) and parent.arg == "key":
        return True
    while isinstance(parent, ast.Tuple):
        parent = parent.parent
    return isinstance(parent, ast.Call) and call_name(parent) == "isinstance"


def taken_at_once(node, name):
    parent = node.parent
    if isinstance(parent, (ast.For, ast.comprehension)):
        return parent.iter is node
    if isinstance(parent, ast.Compare) and name in ("range", "keys"):
        return isinstance(parent.ops[0], (ast.In, ast.NotIn))
    if not isinstance(parent, ast.Call):
        return False
    return call_name(parent) in TAKERS or (name == "range" and call_name(parent) in ("reversed", "len"))


def function_problems(node):
    found = []
    if isinstance(node, ast.Lambda):
        if node.args.vararg or node.args.kwarg or node.args.kwonlyargs:
            found.append((node.lineno, "L4", "a lambda with stars"))
        return found
    if node.end_lineno - node.lineno + 1 > 40:
        found.append((node.lineno, "L10", "more than 40 lines"))
    allowed = ("property", "staticmethod", "classmethod")
    for decorator in node.decorator_list:
        plain = isinstance(decorator, ast.Name) and decorator.id in allowed
        setter = isinstance(decorator, ast.Attribute) and decorator.attr == "setter"
        if not (plain or setter) or not isinstance(node.parent, ast.ClassDef):
            found.append((node.lineno, "L4", "a decorator"))
    if node.name.startswith("__"):
        if node.name[2:-2] not in ALLOWED_DOUBLE or not isinstance(node.parent, ast.ClassDef):
            found.append((node.lineno, "L5", f"the method {node.name}"))
    for default in node.args.defaults + node.args.kw_defaults:
        if default is not None and any(isinstance(part, (ast.Call, ast.List, ast.Dict)) for part in ast.walk(default)):
            found.append((node.lineno, "L4", "a default value that is not plain"))
    return found
