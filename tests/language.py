"""Finds breaches of those rules of the language subset that can be read off the source."""
import ast
import builtins
import re

LIBRARY = {
    "heapq": {"heappush", "heappop", "heapify", "heapreplace", "heappushpop"},
    "math": {"gcd", "lcm", "isqrt", "comb", "perm", "factorial"},
    "itertools": {
        "product", "combinations", "permutations", "chain", "accumulate", "pairwise", "islice", "zip_longest",
    },
    "collections": {"defaultdict"},
}
BUILTINS = set(
    "len range enumerate zip min max sum abs sorted reversed int str bool bytes list tuple dict set frozenset "
    "isinstance ord repr any all divmod pow getattr hasattr setattr iter next map super property staticmethod "
    "classmethod Exception ValueError TypeError KeyError IndexError LookupError ZeroDivisionError "
    "ArithmeticError OverflowError RuntimeError NotImplementedError AttributeError StopIteration NotImplemented".split()
)
METHODS = set(
    "append clear copy count endswith extend find get index insert isalnum isalpha isdigit islower isspace isupper "
    "items join keys ljust lower lstrip partition pop remove replace reverse rfind rjust rpartition rsplit rstrip "
    "setdefault split splitlines startswith strip update upper values zfill bit_length title capitalize swapcase "
    "casefold center expandtabs removeprefix removesuffix rindex isascii isdecimal isnumeric istitle isidentifier "
    "isprintable translate add discard sort format maketrans encode decode hex from_bytes".split()
)
BARRED_NAMES = set(
    "register mro elements open input law version_info with_traceback add_note attrgetter breakpoint builtins compile "
    "copyright credits delattr dir eval exec exit gc globals help id importlib license locals methodcaller os quit "
    "type vars sys".split()
)
BARRED_WORDS = re.compile(
    r"\b(typing|typing_extensions|enum|Enum|IntEnum|StrEnum|Flag|IntFlag|Generic|Protocol|ABC|ABCMeta|namedtuple|"
    r"NamedTuple|TypedDict|TYPE_CHECKING|abstractmethod)\b|dataclass|overload|contextmanager"
)
# Those that every class may have; the operators of L5 are left out until one is needed.
DOUBLE_UNDERSCORES = {"__init__", "__eq__", "__repr__", "__str__", "__len__", "__call__", "__iter__"}
BARRED_NODES = (
    ast.Global, ast.Await, ast.AsyncFunctionDef, ast.AsyncFor, ast.AsyncWith, ast.Div, ast.MatMult, ast.TryStar,
)
FUNCTION = (ast.FunctionDef, ast.Lambda)


def breaches_of_text(text):
    """Breaches that lines and characters show (L10, L14)."""
    lines = text.split("\n")
    found = []
    if len(lines) > 400:
        found.append("L10: more than 399 lines")
    found += [f"L10: line {at} is too long" for at, line in enumerate(lines, 1) if len(line) > 120]
    found += [f"L14: character {c!r}" for c in sorted(set(text)) if c != "\n" and not " " <= c <= "~"]
    return found


def breach_of_module_level(node):
    """What is wrong with a statement at module level (L3), or None."""
    if isinstance(node, (ast.Import, ast.ImportFrom, ast.FunctionDef, ast.ClassDef)):
        return None
    if isinstance(node, ast.Expr) and isinstance(node.value, ast.Constant) and isinstance(node.value.value, str):
        return None
    if isinstance(node, ast.Assign) and len(node.targets) == 1 and isinstance(node.targets[0], ast.Name):
        if not [part for part in ast.walk(node.value) if isinstance(part, (ast.Call, ast.Lambda, ast.comprehension))]:
            return None
    return f"L3: line {node.lineno} at module level"


def breaches_of_tables(tree):
    """Lists and dicts within a list, dict or tuple at module level (L15)."""
    found = []
    for node in tree.body:
        if isinstance(node, ast.Assign):
            inner = [part for part in ast.walk(node.value) if part is not node.value]
            if [part for part in inner if isinstance(part, (ast.List, ast.Dict, ast.Set))]:
                found.append(f"L15: line {node.lineno} has a list or dict in another one")
    return found


def breaches_of_imports(tree, package):
    """Breaches of L2 and L16 that one file shows."""
    found = []
    for node in ast.walk(tree):
        if isinstance(node, ast.Import):
            found.append(f"L16: line {node.lineno} imports a module as a name")
        if isinstance(node, ast.ImportFrom):
            names = [alias.name for alias in node.names]
            own = node.level == 0 and node.module.split(".")[0] == package and "*" not in names
            library = node.level == 0 and set(names) <= LIBRARY.get(node.module, set())
            future = node.module == "__future__" and names == ["annotations"]
            if not (own or library or future) or node not in tree.body:
                found.append(f"L2: line {node.lineno}")
    return found


def breaches_of_node(node, own):
    """What is wrong with one node; `own` holds the names that the package defines."""
    found = []
    if isinstance(node, BARRED_NODES):
        found.append(f"L6 or L7: {node.__class__.__name__}")
    if isinstance(node, ast.FunctionDef) and node.end_lineno - node.lineno >= 40:
        found.append(f"L10: {node.name} is too long")
    if isinstance(node, ast.Constant) and isinstance(node.value, (float, complex)):
        found.append("L7: a float")
    if isinstance(node, ast.Constant) and isinstance(node.value, str) and "%" in node.value:
        found.append("L27: a percent sign in a string")
    if isinstance(node, ast.Name) and node.id in dir(builtins):
        if node.id not in BUILTINS or not isinstance(node.ctx, ast.Load):
            found.append(f"L8: {node.id}")
    if isinstance(node, ast.arg) and node.arg in dir(builtins):
        found.append(f"L15: parameter {node.arg}")
    if isinstance(node, ast.Call) and isinstance(node.func, ast.Attribute):
        if node.func.attr not in METHODS | own and node.func.attr != "__init__":
            found.append(f"L25: method {node.func.attr}")
        if node.func.attr in ("to_bytes", "fromhex"):
            found.append(f"L7: {node.func.attr}")
    if isinstance(node, ast.Call) and isinstance(node.func, ast.Name) and node.func.id == "bytes":
        found.append("L7: bytes")
    if isinstance(node, ast.BinOp) and isinstance(node.op, ast.Pow) and not isinstance(node.right, ast.Constant):
        found.append("L27: an exponent")
    if isinstance(node, ast.Compare) and [op for op in node.ops if isinstance(op, (ast.Is, ast.IsNot))]:
        if not (isinstance(node.comparators[-1], ast.Constant) and node.comparators[-1].value in (None, True, False)):
            found.append("L20: is")
    if isinstance(node, ast.For) or isinstance(node, ast.comprehension):
        if isinstance(node.iter, (ast.Set, ast.SetComp)):
            found.append("L24: a set is iterated")
    if isinstance(node, ast.ExceptHandler) and node.type is None:
        found.append("L19: a bare except")
    if isinstance(node, (ast.FunctionDef, ast.ClassDef)) and node.name in BARRED_NAMES | set(dir(builtins)):
        found.append(f"L15 or L17: {node.name}")
    if isinstance(node, (ast.Name, ast.arg)) and (getattr(node, "id", None) or getattr(node, "arg", None)) in BARRED_NAMES:
        found.append("L17: a name that is not used")
    return found


def breaches_of_bindings(tree):
    """Names in functions that hide a class or an import of the file (L15), and methods that are not allowed (L5)."""
    taken = {node.name for node in tree.body if isinstance(node, ast.ClassDef)}
    for node in tree.body:
        if isinstance(node, ast.ImportFrom):
            taken |= {alias.asname or alias.name for alias in node.names}
    found = []
    for node in ast.walk(tree):
        name = node.arg if isinstance(node, ast.arg) else None
        if isinstance(node, ast.Name) and isinstance(node.ctx, ast.Store):
            name = node.id
        if name in taken:
            found.append(f"L15: {name} has another meaning")
        if isinstance(node, ast.FunctionDef) and node.name.startswith("__") and node.name not in DOUBLE_UNDERSCORES:
            found.append(f"L5: {node.name}")
    return found


def own_names(trees):
    """The names of the functions, methods and parameters that the files define."""
    nodes = [node for tree in trees for node in ast.walk(tree)]
    return {node.name for node in nodes if isinstance(node, ast.FunctionDef)}


def breaches(text, package, own):
    """All breaches that are found in the text of one file."""
    tree = ast.parse(text)
    found = breaches_of_text(text)
    found += [breach for breach in map(breach_of_module_level, tree.body) if breach]
    found += breaches_of_tables(tree)
    found += breaches_of_imports(tree, package)
    found += breaches_of_bindings(tree)
    for node in ast.walk(tree):
        found += breaches_of_node(node, own)
    found += [f"L17: {match.group()}" for match in BARRED_WORDS.finditer(text)]
    return found


def imports_between(trees, package):
    """A dict from each module of the package to the modules of the package that it imports from."""
    found = {}
    for name, tree in trees.items():
        nodes = [node for node in ast.walk(tree) if isinstance(node, ast.ImportFrom)]
        found[name] = [node.module for node in nodes if node.module.split(".")[0] == package]
    return found


def on_a_circle(links):
    """The modules that import from each other, directly or through others (L16)."""
    reached = {name: set(links[name]) for name in links}
    for _ in links:
        for name in links:
            for other in list(reached[name]):
                reached[name] |= reached.get(other, set())
    return [name for name in links if name in reached[name]]
