"""Looks for breaks of the rules of ../shared/LANGUAGE.md in files of the package, as far as a script can see them.

Where a rule allows more than the package needs, this is stricter: what it reports may be looked at again. It takes a
dict of file names and their texts, and tells a list of (rule, file, row, what).
"""

import ast
import builtins
import io
import re
import tokenize

PACKAGE = "nevercaught"
LIBRARY = {
    "heapq": {"heappush", "heappop", "heapify", "heapreplace", "heappushpop"},
    "math": {"gcd", "lcm", "isqrt", "comb", "perm", "factorial"},
    "itertools": {"product", "combinations", "permutations", "chain", "accumulate", "pairwise", "islice", "zip_longest"},
    "collections": {"defaultdict", "deque"},
}
BUILTINS = set(
    "len range enumerate zip min max sum abs sorted reversed int str bool bytes list tuple dict set frozenset isinstance"
    " ord repr any all divmod pow getattr hasattr setattr type iter next map super object Exception ValueError TypeError"
    " KeyError IndexError LookupError ZeroDivisionError ArithmeticError OverflowError RuntimeError NotImplementedError"
    " AttributeError StopIteration NotImplemented".split())
METHODS = set(
    "append clear copy count endswith extend find get index insert isalnum isalpha isdigit islower isspace isupper items"
    " join keys ljust lower lstrip partition pop remove replace reverse rfind rjust rpartition rsplit rstrip setdefault"
    " split splitlines startswith strip update upper values zfill bit_length title capitalize swapcase casefold center"
    " expandtabs removeprefix removesuffix rindex isascii isdecimal isnumeric istitle isidentifier isprintable translate"
    " format add discard encode decode hex".split())
CHANGING = set("append clear extend insert pop remove reverse setdefault update add discard sort".split())
NO_ATTRIBUTES = set(
    "items keys values pop update append clear extend insert remove reverse setdefault sort args encode decode hex fromhex"
    " format format_map mro as_integer_ratio bit_count conjugate from_bytes is_integer to_bytes".split())
NO_WORDS = set(
    "type typing typing_extensions enum Enum IntEnum StrEnum Flag IntFlag Generic Protocol ABC ABCMeta namedtuple"
    " NamedTuple TypedDict TYPE_CHECKING abstractmethod".split())
NO_NAMES = set("register mro elements open input law version_info with_traceback add_note".split())
NO_BINDINGS = set(
    "attrgetter breakpoint builtins compile copyright credits delattr dir eval exec exit gc getattr globals hasattr help id"
    " importlib license locals methodcaller os quit setattr super type vars sys".split())
NO_FILES = set("test tests testing site conftest sitecustomize usercustomize".split()) | NO_WORDS | NO_NAMES
NO_PREFIXES = ("_wall", "_pe_", "_dcw_", "_enum_", "_cm_", "_twin_re_", "_lay_", "_law_", "_stub_", "_sre", "_WallAttr")
NO_STEMS = re.compile(r"_(cold|tuplegetter|outside|record|written_out|member_names)[0-9_]*$")
FRAMES = re.compile(r"(f|tb|co|gi|cr|ag)_(back|next|code|names|frame|globals|locals|lineno|consts|builtins|trace)$")
OPERATORS = set(
    "lt le gt ge ne add sub mul floordiv mod pow and or xor lshift rshift radd rsub rmul rfloordiv rmod rand ror rxor"
    " rlshift rrshift iadd isub imul ifloordiv imod ipow iand ior ixor ilshift irshift neg pos invert abs bool contains"
    " getitem setitem".split())
DUNDERS = {f"__{word}__" for word in "init eq repr str len enter exit call iter".split() + sorted(OPERATORS)}
STATEMENTS = (
    ast.Assign, ast.AnnAssign, ast.AugAssign, ast.If, ast.While, ast.For, ast.Return, ast.Break, ast.Continue, ast.Pass,
    ast.Raise, ast.Assert, ast.Delete, ast.Nonlocal, ast.Match, ast.With, ast.Expr, ast.Try, ast.FunctionDef)
EAGER = {"list", "tuple", "dict", "sorted", "sum", "any", "all", "enumerate", "zip", "bytes", "min", "max"}
LAZY = {"zip", "enumerate", "range", "reversed", "map"}
VIEWS = {"items", "keys", "values"}
KEYWORDS = {"sorted": {"key", "reverse"}, "min": {"key", "default"}, "max": {"key", "default"}, "sum": {"start"},
            "enumerate": {"start"}, "zip": {"strict"}}
CAUGHT = {"KeyError", "ZeroDivisionError", "StopIteration", "ValueError", "LookupError", "IndexError"}
COMPREHENSIONS = (ast.ListComp, ast.SetComp, ast.DictComp, ast.GeneratorExp)


class Look:
    """The files of a package, and the breaks that are found in them."""

    def __init__(self, files):
        self.files = files
        self.breaks = []
        self.trees = {name: ast.parse(text) for name, text in files.items()}
        for tree in self.trees.values():
            for node in ast.walk(tree):
                for child in ast.iter_child_nodes(node):
                    child.parent = node
        nodes = [node for tree in self.trees.values() for node in ast.walk(tree)]
        self.classes = {node.name for node in nodes if isinstance(node, ast.ClassDef)}
        methods = [node for node in nodes if isinstance(node, ast.FunctionDef) and isinstance(node.parent, ast.ClassDef)]
        self.methods = {node.name for node in methods}
        self.plain_methods = {node.name for node in methods if not node.decorator_list}
        self.attributes = {node.attr for node in nodes if isinstance(node, ast.Attribute) and isinstance(node.ctx, ast.Store)}
        self.errors = {node.name for node in nodes if isinstance(node, ast.ClassDef) and self.is_error(node, nodes)}

    def is_error(self, node, nodes):
        names = {base.id for base in node.bases if isinstance(base, ast.Name)}
        if names & {"ValueError", "Exception"}:
            return True
        return any(self.is_error(other, nodes) for other in nodes
                   if isinstance(other, ast.ClassDef) and other.name in names)

    def tell(self, rule, name, row, what):
        self.breaks.append((rule, name, row, what))


def breaks_in(files):
    """All breaks that are found."""
    look = Look(files)
    file_names(look)
    imports(look)
    for name, tree in look.trees.items():
        rows(look, name)
        words(look, name)
        module_level(look, name, tree)
        bindings(look, name, tree)
        for node in ast.walk(tree):
            for check in CHECKS:
                check(look, name, node)
    return sorted(set(look.breaks))


def called(node):
    """The bare name that a call calls, if it is one."""
    return node.func.id if isinstance(node, ast.Call) and isinstance(node.func, ast.Name) else None


def function_round(node):
    while not isinstance(node, (ast.FunctionDef, ast.Lambda, ast.Module)):
        node = node.parent
    return node


def is_docstring(node):
    holder = getattr(node, "parent", None)
    return (isinstance(node, ast.Expr) and isinstance(node.value, ast.Constant) and isinstance(node.value.value, str)
            and isinstance(holder, (ast.Module, ast.ClassDef, ast.FunctionDef)) and holder.body[0] is node)


def file_names(look):
    for name in look.files:
        stem = name[:-3]
        plain = re.fullmatch(r"[a-z0-9_]+\.py", name)
        builtin = hasattr(builtins, stem) and stem not in ("__init__", "__main__") or stem in LIBRARY
        if not plain or stem.lower() in NO_FILES or stem.startswith(("law_", "test_")) or builtin:
            look.tell("L14", name, 1, "name of a file")
    if "__init__.py" not in look.files:
        look.tell("L14", "__init__.py", 1, "missing")
    if len(look.files) > 100:
        look.tell("L14", "__init__.py", 1, "too many files")


def defined_in(tree):
    names = []
    for node in tree.body:
        if isinstance(node, (ast.FunctionDef, ast.ClassDef)):
            names.append(node.name)
        elif isinstance(node, ast.Assign):
            names.extend(target.id for target in node.targets if isinstance(target, ast.Name))
    return names


def imports(look):
    leads = {}
    for name, tree in look.trees.items():
        leads[name] = []
        top = True
        for node in tree.body:
            if not isinstance(node, (ast.Import, ast.ImportFrom)):
                top = top and is_docstring(node)
            elif not top:
                look.tell("L2", name, node.lineno, "import below other statements")
        for node in ast.walk(tree):
            if isinstance(node, ast.Import):
                if name != "__main__.py" or [alias.name for alias in node.names] != ["sys"]:
                    look.tell("L2", name, node.lineno, "import of a module")
                    look.tell("L16", name, node.lineno, "import of a module")
            elif isinstance(node, ast.ImportFrom):
                one_import(look, name, node, leads[name])
    for name in leads:
        if name in reached(leads, name):
            look.tell("L16", name, 1, "imports in a ring")


def one_import(look, name, node, leads):
    if not isinstance(node.parent, ast.Module) or node.level or any(
            alias.asname or alias.name == "*" for alias in node.names):
        look.tell("L2", name, node.lineno, "form of an import")
    names = {alias.name for alias in node.names}
    if node.module == "__future__":
        return
    if node.module in LIBRARY:
        if not names <= LIBRARY[node.module]:
            look.tell("L2", name, node.lineno, "word of the library")
        return
    path = (node.module or "").split(".")
    other = path[-1] + ".py"
    if path[0] != PACKAGE or len(path) != 2 or other not in look.trees or other == "__main__.py":
        look.tell("L2", name, node.lineno, "import of " + str(node.module))
        return
    leads.append(other)
    if not names <= set(defined_in(look.trees[other])):
        look.tell("L16", name, node.lineno, "not defined there")


def reached(leads, start):
    found, ahead = set(), list(leads[start])
    while ahead:
        name = ahead.pop()
        if name not in found:
            found.add(name)
            ahead.extend(leads[name])
    return found


def rows(look, name):
    text = look.files[name]
    lines = text.split("\n")
    if len(lines) - 1 > 399:
        look.tell("L10", name, 400, "rows of a file")
    for number, line in enumerate(lines, 1):
        if len(line) > 120:
            look.tell("L10", name, number, "length of a row")
        if "\t" in line:
            look.tell("L10", name, number, "tab")
        if not all(" " <= sign <= "~" for sign in line.replace("\t", "")):
            look.tell("L14", name, number, "character")
        if "_wall" in line or "_WallAttr" in line:
            look.tell("L12", name, number, "word")


def words(look, name):
    """Looks at the words of the code, and at its strings, but not at comments and docstrings."""
    docs = set()
    for node in ast.walk(look.trees[name]):
        if is_docstring(node):
            docs.update(range(node.lineno, node.end_lineno + 1))
    for token in tokenize.generate_tokens(io.StringIO(look.files[name]).readline):
        row = token.start[0]
        if token.type == tokenize.NAME:
            if token.string in NO_WORDS and token.string != "type":
                look.tell("L17", name, row, token.string)
            if any(part in token.string for part in ("dataclass", "overload", "contextmanager")):
                look.tell("L17", name, row, token.string)
        elif token.type in (tokenize.STRING, getattr(tokenize, "FSTRING_MIDDLE", -1)):
            inner = token.string
            if re.search(r"\\[^nt\\'\"]", inner):
                look.tell("L27", name, row, "escape")
            if row in docs:
                continue
            if NO_WORDS - {"type"} & set(re.findall(r"\w+", inner)):
                look.tell("L17", name, row, "word in a string")
            if "%" in inner:
                look.tell("L27", name, row, "the sign of ratios in a string")
            if re.search(r"\._{1,2}['\"]*$", inner) or re.fullmatch(r"['\"]__.*__['\"]", inner) and "__main__" not in inner:
                look.tell("L27", name, row, "string with underscores")


def is_plain(node, defined):
    if isinstance(node, ast.Constant):
        return isinstance(node.value, (int, str, bytes, bool)) or node.value is None
    if isinstance(node, ast.UnaryOp):
        return isinstance(node.op, ast.USub) and isinstance(node.operand, ast.Constant)
    if isinstance(node, (ast.List, ast.Tuple)):
        return all(is_plain(item, defined) for item in node.elts)
    if isinstance(node, ast.Dict):
        return all(key is not None and is_plain(key, defined) for key in node.keys) and all(
            is_plain(value, defined) for value in node.values)
    return isinstance(node, ast.Name) and node.id in defined


def module_level(look, name, tree):
    defined = set()
    for node in tree.body:
        if isinstance(node, (ast.FunctionDef, ast.ClassDef)):
            defined.add(node.name)
        elif isinstance(node, ast.Assign):
            if len(node.targets) != 1 or not isinstance(node.targets[0], ast.Name) or not is_plain(node.value, defined):
                look.tell("L3", name, node.lineno, "value at module level")
            for inner in ast.walk(node.value):
                if inner is not node.value and isinstance(inner, (ast.List, ast.Dict)):
                    look.tell("L15", name, node.lineno, "list within a value at module level")
        elif not is_docstring(node) and not isinstance(node, (ast.Import, ast.ImportFrom)):
            guard = isinstance(node, ast.If) and name == "__main__.py" and "__name__" in ast.unparse(node.test)
            if not guard:
                look.tell("L3", name, node.lineno, "statement at module level")


def bound_in(node):
    """The names that a function binds, with their rows."""
    found = []
    for inner in ast.walk(node):
        if isinstance(inner, ast.arg):
            found.append((inner.arg, inner.lineno))
        elif isinstance(inner, ast.Name) and isinstance(inner.ctx, ast.Store):
            found.append((inner.id, inner.lineno))
        elif isinstance(inner, (ast.FunctionDef, ast.ExceptHandler)) and inner is not node and inner.name:
            found.append((inner.name, inner.lineno))
    return found


def bindings(look, name, tree):
    taken = [alias.name for node in tree.body if isinstance(node, (ast.Import, ast.ImportFrom)) for alias in node.names]
    classes = [node.name for node in tree.body if isinstance(node, ast.ClassDef)]
    top = taken + defined_in(tree)
    for word in {word for word in top if top.count(word) > 1}:
        look.tell("L15", name, 1, "bound twice: " + word)
    for word in defined_in(tree):
        if hasattr(builtins, word):
            look.tell("L15", name, 1, "name of a builtin: " + word)
        if word in NO_NAMES | NO_BINDINGS:
            look.tell("L17", name, 1, word)
    for node in ast.walk(tree):
        if isinstance(node, ast.FunctionDef):
            for word, row in bound_in(node):
                if hasattr(builtins, word):
                    look.tell("L15", name, row, "name of a builtin: " + word)
                if word in taken or word in classes:
                    look.tell("L15", name, row, "name of a class or an import: " + word)
                if word in NO_NAMES | NO_BINDINGS:
                    look.tell("L17", name, row, word)


def check_names(look, name, node):
    found = []
    if isinstance(node, ast.Name):
        found.append(node.id)
        if node.id == "_" and isinstance(node.ctx, ast.Load):
            look.tell("L12", name, node.lineno, "_ is read")
    elif isinstance(node, ast.Attribute):
        found.append(node.attr)
        if node.attr in ("__class__", "__name__") and "__class__" not in ast.unparse(node):
            look.tell("L8", name, node.lineno, node.attr)
    elif isinstance(node, (ast.FunctionDef, ast.ClassDef)):
        found.append(node.name)
    elif isinstance(node, ast.arg):
        found.append(node.arg)
    elif isinstance(node, ast.keyword) and node.arg:
        found.append(node.arg)
    for word in found:
        row = getattr(node, "lineno", 1)
        dunder = word in DUNDERS or word in ("__name__", "__class__", "__slots__")
        if not re.fullmatch(r"_?[A-Za-z][A-Za-z0-9_]*|_", word) and not dunder:
            look.tell("L12", name, row, word)
        if word.startswith(NO_PREFIXES) and not isinstance(node, ast.Attribute) or NO_STEMS.match(word):
            look.tell("L12", name, row, word)
        if word in NO_NAMES or FRAMES.match(word):
            look.tell("L17", name, row, word)


def check_functions(look, name, node):
    if not isinstance(node, (ast.FunctionDef, ast.Lambda)):
        return
    spec = node.args
    for default in [*spec.defaults, *[value for value in spec.kw_defaults if value is not None]]:
        if not is_plain(default, set()) or isinstance(default, (ast.List, ast.Dict)):
            look.tell("L4", name, default.lineno, "default value")
    if isinstance(node, ast.Lambda):
        if spec.vararg or spec.kwarg or spec.kwonlyargs or spec.posonlyargs:
            look.tell("L4", name, node.lineno, "parameters of a lambda")
        return
    if node.end_lineno - node.lineno + 1 > 40:
        look.tell("L10", name, node.lineno, "rows of a function")
    if node.decorator_list and not (isinstance(node.parent, ast.ClassDef) and len(node.decorator_list) == 1 and re.fullmatch(
            r"property|staticmethod|classmethod|\w+\.setter", ast.unparse(node.decorator_list[0]))):
        look.tell("L4", name, node.lineno, "decorator")
    arguments = [*spec.posonlyargs, *spec.args, *spec.kwonlyargs, spec.vararg, spec.kwarg]
    if node.returns or any(arg is not None and arg.annotation for arg in arguments):
        look.tell("L21", name, node.lineno, "annotation")


def check_classes(look, name, node):
    if not isinstance(node, ast.ClassDef):
        return
    if not isinstance(node.parent, ast.Module):
        look.tell("L15", name, node.lineno, "class within something")
    if node.decorator_list or node.keywords:
        look.tell("L5", name, node.lineno, "form of a class")
    for base in node.bases:
        known = isinstance(base, ast.Name) and (base.id in look.classes or base.id in ("ValueError", "Exception"))
        if not known:
            look.tell("L5", name, node.lineno, "base class")
    met = set()
    for inner in node.body:
        if isinstance(inner, ast.FunctionDef):
            if inner.name.startswith("__") and inner.name not in DUNDERS:
                look.tell("L5", name, inner.lineno, inner.name)
            if inner.name in met and not inner.decorator_list:
                look.tell("L18", name, inner.lineno, "method twice")
            met.add(inner.name)
            methods_of(look, name, node, inner)
            bare_methods(look, name, inner)
        elif isinstance(inner, ast.Assign):
            if not is_plain(inner.value, set()):
                look.tell("L5", name, inner.lineno, "class value")
        elif not is_docstring(inner):
            look.tell("L5", name, inner.lineno, "statement of a class")


def methods_of(look, name, holder, node):
    """Looks at the methods with double underscores."""
    if node.name[2:-2] in OPERATORS and holder.name in look.errors:
        look.tell("L5", name, node.lineno, "operator of an error")
    returns = [inner for inner in ast.walk(node) if isinstance(inner, ast.Return)]
    if node.name == "__init__" and any(inner.value is not None for inner in returns):
        look.tell("L28", name, node.lineno, "return")
    if node.name in ("__repr__", "__str__", "__len__", "__bool__") and not isinstance(node.body[-1], ast.Return):
        look.tell("L28", name, node.lineno, "no return at the end")
    quiet = node.name in ("__eq__", "__repr__", "__str__", "__len__") or node.name[2:-2] in OPERATORS - {"setitem"}
    if node.name.startswith("__") and quiet and not node.name.startswith("__i"):
        for inner in ast.walk(node):
            if isinstance(inner, (ast.Attribute, ast.Subscript)) and not isinstance(inner.ctx, ast.Load):
                look.tell("L28", name, inner.lineno, "changes something")
            if isinstance(inner, ast.Call) and isinstance(inner.func, ast.Attribute) and inner.func.attr in CHANGING:
                look.tell("L28", name, inner.lineno, "changes something")
    for inner in ast.walk(node):
        stored = isinstance(inner, ast.Attribute) and isinstance(inner.ctx, ast.Store)
        if stored and inner.attr in NO_ATTRIBUTES:
            look.tell("L26", name, inner.lineno, inner.attr)
        if stored and ast.unparse(inner.value) == "self" and inner.attr in {
                other.name for other in holder.body if isinstance(other, ast.FunctionDef) and not other.decorator_list}:
            look.tell("L18", name, inner.lineno, "method and attribute: " + inner.attr)


def bare_methods(look, name, node):
    """Looks at a static or class method."""
    if not {"staticmethod", "classmethod"} & {ast.unparse(found) for found in node.decorator_list}:
        return
    if node.name in METHODS | look.attributes | look.plain_methods:
        look.tell("L5", name, node.lineno, "name of a static or class method: " + node.name)
    if any(isinstance(inner, ast.Name) and inner.id == "super" for inner in ast.walk(node)):
        look.tell("L5", name, node.lineno, "super in a static or class method")


def check_statements(look, name, node):
    if isinstance(node, (ast.Module, ast.ClassDef, ast.Import, ast.ImportFrom)):
        return
    if isinstance(node, ast.stmt) and not isinstance(node, (*STATEMENTS, ast.Global)):
        look.tell("L6", name, node.lineno, type(node).__name__)
    if isinstance(node, ast.Global):
        look.tell("L6", name, node.lineno, "global")
    if isinstance(node, ast.Expr) and not is_docstring(node) and not isinstance(
            node.value, (ast.Call, ast.Yield, ast.YieldFrom)):
        look.tell("L6", name, node.lineno, "expression as a statement")
    if isinstance(node, ast.AugAssign) and isinstance(node.target, ast.Subscript) and isinstance(node.target.slice, ast.Slice):
        look.tell("L6", name, node.lineno, "sum to a slice")
    if isinstance(node, ast.AnnAssign):
        look.tell("L21", name, node.lineno, "annotation")
    if isinstance(node, ast.Delete) and any(isinstance(target, (ast.Attribute, ast.Tuple)) for target in node.targets):
        look.tell("L6", name, node.lineno, "del")


def check_values(look, name, node):
    if isinstance(node, ast.Constant) and isinstance(node.value, (float, complex)):
        look.tell("L7", name, node.lineno, "number")
    if isinstance(node, ast.Constant) and node.value is Ellipsis:
        look.tell("L7", name, node.lineno, "dots")
    if isinstance(node, ast.Constant) and type(node.value) is int and abs(node.value) >= 10 ** 900:
        look.tell("L27", name, node.lineno, "number")
    if isinstance(node, ast.BinOp) and isinstance(node.op, (ast.Div, ast.MatMult)):
        look.tell("L7", name, node.lineno, "operator")
    if isinstance(node, ast.BinOp) and isinstance(node.op, ast.Pow):
        power = node.right
        if not (isinstance(power, ast.Constant) and type(power.value) is int and 0 <= power.value <= 64):
            look.tell("L27", name, node.lineno, "exponent")
    if isinstance(node, (ast.Await, ast.AsyncFor, ast.NamedExpr)):
        look.tell("L7", name, node.lineno, type(node).__name__)
    if isinstance(node, COMPREHENSIONS):
        if len(node.generators) > 6 or sum(len(part.ifs) for part in node.generators) > 12:
            look.tell("L7", name, node.lineno, "long comprehension")
        if not isinstance(function_round(node), ast.FunctionDef):
            look.tell("L7", name, node.lineno, "comprehension outside of a function")
    if isinstance(node, ast.GeneratorExp):
        whole = node.parent
        joins = isinstance(whole, ast.Call) and isinstance(whole.func, ast.Attribute) and whole.func.attr == "join"
        if called(whole) not in ("list", "tuple", "dict") and not joins:
            look.tell("L7", name, node.lineno, "generator expression")
    if isinstance(node, ast.Starred) and isinstance(node.parent, (ast.Set, ast.Subscript)):
        look.tell("L7", name, node.lineno, "star")
    if isinstance(node, ast.Starred) and isinstance(node.ctx, ast.Load) and not isinstance(
            node.value, (ast.Name, ast.Attribute)):
        look.tell("L7", name, node.lineno, "star over a value")


def check_builtins(look, name, node):
    if not isinstance(node, ast.Name) or not isinstance(node.ctx, ast.Load) or not hasattr(builtins, node.id):
        return
    if isinstance(node.parent, ast.FunctionDef) and node in node.parent.decorator_list:
        return
    allowed = node.id in BUILTINS or node.id == "print" and name == "__main__.py"
    if not allowed and not node.id.startswith("__"):
        look.tell("L8", name, node.lineno, node.id)
    holder = node.parent
    inside = holder.parent if isinstance(holder, ast.Tuple) else holder
    fine = isinstance(holder, ast.Call) and holder.func is node or isinstance(holder, (ast.ClassDef, ast.ExceptHandler))
    fine = fine or called(inside) in ("isinstance", "map") or isinstance(inside, (ast.Raise, ast.ExceptHandler))
    fine = fine or isinstance(holder, ast.keyword) and holder.arg == "key"
    fine = fine or isinstance(inside, ast.Compare) and called(inside.left) == "type"
    fine = fine or node.id == "NotImplemented" and isinstance(holder, ast.Return)
    if not fine:
        look.tell("L22", name, node.lineno, node.id + " as a value")
    if node.id == "type" and isinstance(holder, ast.Call):
        shown = isinstance(holder.parent, ast.Compare) or isinstance(holder.parent, ast.Attribute)
        if not shown:
            look.tell("L8", name, node.lineno, "what type tells is kept")


def check_class_names(look, name, node):
    if not isinstance(node, ast.Name) or node.id not in look.classes or not isinstance(node.ctx, ast.Load):
        return
    holder = node.parent
    inside = holder.parent if isinstance(holder, ast.Tuple) else holder
    fine = isinstance(holder, ast.Call) and holder.func is node or isinstance(inside, (ast.ClassDef, ast.ExceptHandler, ast.Raise))
    fine = fine or called(inside) == "isinstance" and node is not inside.args[0]
    fine = fine or isinstance(holder, ast.Compare) and called(holder.left) == "type"
    fine = fine or isinstance(holder, ast.Attribute)
    if not fine:
        look.tell("L18", name, node.lineno, node.id + " as a value")


def check_errors(look, name, node):
    if isinstance(node, ast.ExceptHandler):
        kinds = node.type.elts if isinstance(node.type, ast.Tuple) else [node.type]
        for kind in kinds:
            if not isinstance(kind, ast.Name) or kind.id not in CAUGHT | look.errors:
                look.tell("L19", name, node.lineno, "what is caught")
            elif kind.id in ("ValueError", "LookupError", "IndexError"):
                look.tell("L19", name, node.lineno, "caught by a base: look at it")
    if isinstance(node, ast.Raise) and node.exc is not None:
        word = called(node.exc) or (node.exc.id if isinstance(node.exc, ast.Name) else None)
        if word not in look.errors | BUILTINS:
            look.tell("L19", name, node.lineno, "what is raised")


def check_calls(look, name, node):
    if isinstance(node, ast.Compare):
        sides = [node.left, *node.comparators]
        for at, sign in enumerate(node.ops):
            if isinstance(sign, (ast.Is, ast.IsNot)):
                pair = sides[at:at + 2]
                constant = any(isinstance(side, ast.Constant) and repr(side.value) in ("None", "True", "False") for side in pair)
                if not constant and not any(called(side) == "type" for side in pair):
                    look.tell("L20", name, node.lineno, "is")
    if not isinstance(node, ast.Call):
        return
    if isinstance(node.func, ast.Name) and hasattr(builtins, node.func.id):
        words_used = {word.arg for word in node.keywords}
        if not words_used <= KEYWORDS.get(node.func.id, set()):
            look.tell("L22", name, node.lineno, "keyword of a builtin")
    elif isinstance(node.func, ast.Attribute) and node.func.attr not in look.methods | DUNDERS:
        if node.func.attr not in METHODS:
            look.tell("L25", name, node.lineno, node.func.attr)
        if node.keywords:
            look.tell("L25", name, node.lineno, "keyword of a method")
        if node.func.attr == "join" and not isinstance(node.func.value, ast.Constant):
            look.tell("L25", name, node.lineno, "join of no literal: look at it")
    lazy = called(node) in LAZY
    view = isinstance(node.func, ast.Attribute) and node.func.attr in VIEWS
    if lazy or view:
        holder = node.parent
        fine = isinstance(holder, (ast.For, ast.comprehension)) and holder.iter is node
        fine = fine or called(holder) in EAGER and holder.args and (holder.args[0] is node or called(holder) == "zip")
        fine = fine or called(holder) in ("len", "reversed") and called(node) == "range"
        fine = fine or isinstance(holder, ast.Compare) and called(node) == "range" and isinstance(holder.ops[0], (ast.In, ast.NotIn))
        if not fine:
            look.tell("L23", name, node.lineno, "not iterated at once")


def iterated(node):
    """The texts of what a loop goes over."""
    if called(node) in ("enumerate", "zip", "reversed"):
        return [text for arg in node.args for text in iterated(arg)]
    if isinstance(node, ast.Call) and isinstance(node.func, ast.Attribute) and node.func.attr in VIEWS:
        return [ast.unparse(node.func.value)]
    if isinstance(node, (ast.Name, ast.Attribute, ast.Subscript)):
        return [ast.unparse(node)]
    return []


def check_loops(look, name, node):
    if not isinstance(node, ast.For):
        return
    over = iterated(node.iter)
    for inner in [child for part in node.body for child in ast.walk(part)]:
        changed = None
        if isinstance(inner, ast.Call) and isinstance(inner.func, ast.Attribute) and inner.func.attr in CHANGING:
            changed = inner.func.value
        elif isinstance(inner, ast.Subscript) and not isinstance(inner.ctx, ast.Load):
            changed = inner.value
        elif isinstance(inner, ast.AugAssign):
            changed = inner.target
        if changed is not None and ast.unparse(changed) in over:
            look.tell("L23", name, inner.lineno, "changes what it iterates over")


def makes_set(node):
    return isinstance(node, (ast.Set, ast.SetComp)) or called(node) in ("set", "frozenset")


def check_sets(look, name, node):
    if called(node) == "frozenset":
        look.tell("L24", name, node.lineno, "frozenset")
    if not makes_set(node):
        return
    if isinstance(node, ast.Set) and not isinstance(node.parent, ast.Compare):
        if sum(isinstance(item, ast.Constant) and type(item.value) is int for item in node.elts) > 2:
            look.tell("L13", name, node.lineno, "set of integers")
    holder = node.parent
    while isinstance(holder, ast.BinOp):
        holder = holder.parent
    if called(holder) in ("sorted", "len") and not (called(holder) == "len" and holder.keywords):
        return
    if isinstance(holder, ast.Compare) and all(isinstance(op, (ast.In, ast.NotIn, ast.Eq, ast.NotEq)) for op in holder.ops):
        return
    if isinstance(holder, ast.Assign) and isinstance(holder.targets[0], ast.Name) and holder.value is node:
        stored_set(look, name, holder)
        return
    look.tell("L24", name, node.lineno, "use of a set")


def stored_set(look, name, statement):
    word = statement.targets[0].id
    for node in ast.walk(function_round(statement)):
        if not isinstance(node, ast.Name) or node.id != word or node is statement.targets[0]:
            continue
        holder = node.parent
        fine = isinstance(holder, ast.Attribute) and holder.attr in ("add", "discard")
        fine = fine or isinstance(holder, ast.Compare) and (node in holder.comparators or isinstance(holder.ops[0], (ast.Eq, ast.NotEq)))
        fine = fine or called(holder) in ("len", "sorted") or isinstance(holder, (ast.If, ast.While, ast.Assert, ast.UnaryOp))
        if not fine or isinstance(node.ctx, ast.Store):
            look.tell("L24", name, node.lineno, "use of the stored set " + word)


def check_lambdas(look, name, node):
    if isinstance(node, ast.Lambda):
        for other in ast.walk(look.trees[name]):
            if isinstance(other, ast.Lambda) and other is not node and other.lineno == node.lineno:
                if [arg.arg for arg in other.args.args] == [arg.arg for arg in node.args.args]:
                    look.tell("L13", name, node.lineno, "two lambdas on a row")


CHECKS = (check_names, check_functions, check_classes, check_statements, check_values, check_builtins, check_class_names,
          check_errors, check_calls, check_loops, check_sets, check_lambdas)
