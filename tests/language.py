"""A script's view of the rules L1 to L28: each check yields pairs (line, what is wrong) for one parsed file."""

import ast
import builtins
import re

# L8: the builtins that may be used.
BUILTINS = frozenset(
    "len range enumerate zip min max sum abs sorted reversed int str bool list tuple dict set isinstance ord repr any"
    " all divmod iter next Exception ValueError TypeError KeyError IndexError LookupError ZeroDivisionError"
    " ArithmeticError OverflowError RuntimeError NotImplementedError AttributeError NotImplemented".split())
# L25: the methods of builtin values.
METHODS = frozenset(
    "append clear copy count endswith extend find get index insert isalnum isalpha isdigit islower isspace isupper items"
    " join keys ljust lower lstrip partition pop remove replace reverse rfind rjust rpartition rsplit rstrip setdefault"
    " split splitlines startswith strip update upper values zfill bit_length title capitalize swapcase casefold center"
    " expandtabs removeprefix removesuffix rindex isascii isdecimal isnumeric istitle isidentifier isprintable sort"
    " add discard".split())
# L5: the double-underscore methods.
DUNDERS = frozenset(
    "__init__ __eq__ __repr__ __str__ __len__ __enter__ __exit__ __call__ __iter__ __lt__ __le__ __gt__ __ge__ __ne__"
    " __add__ __sub__ __mul__ __floordiv__ __mod__ __pow__ __and__ __or__ __xor__ __lshift__ __rshift__ __neg__ __pos__"
    " __invert__ __abs__ __bool__ __contains__ __getitem__ __setitem__".split())
# L2: what may be imported from outside of the package.
LIBRARY = {
    "heapq": ("heappush", "heappop", "heapify", "heapreplace", "heappushpop"),
    "math": ("gcd", "lcm", "isqrt", "comb", "perm", "factorial"),
    "itertools": ("chain", "accumulate", "pairwise", "islice", "zip_longest"),
    "collections": ("deque", "defaultdict"),
}
# L17: names that are not used, and words that do not occur outside of comments and docstrings.
BARRED = frozenset(
    "register mro elements open input law version_info with_traceback add_note attrgetter breakpoint builtins compile"
    " copyright credits delattr dir eval exec exit gc getattr globals hasattr help id importlib license locals"
    " methodcaller os quit setattr super type vars sys format_map".split())
WORDS = re.compile(
    r"\b(type|typing|typing_extensions|enum|Enum|IntEnum|StrEnum|Flag|IntFlag|Generic|Protocol|ABC|ABCMeta|namedtuple"
    r"|NamedTuple|TypedDict|TYPE_CHECKING|abstractmethod)\b|dataclass|overload|contextmanager")
PLAIN_NAME = re.compile(r"_?[A-Za-z][A-Za-z0-9_]*|_")
STATEMENTS = (
    ast.FunctionDef, ast.ClassDef, ast.Assign, ast.AugAssign, ast.If, ast.While, ast.For, ast.Return, ast.Break,
    ast.Continue, ast.Pass, ast.Raise, ast.Assert, ast.Delete, ast.Nonlocal, ast.With, ast.Try, ast.Expr,
    ast.ImportFrom)
FUNCTION_LINES, FILE_LINES, LINE_SIGNS = 40, 399, 120


def docstrings(tree):
    """The constants that are docstrings."""
    found = set()
    for node in ast.walk(tree):
        if isinstance(node, (ast.Module, ast.ClassDef, ast.FunctionDef)) and ast.get_docstring(node) is not None:
            found.add(node.body[0].value)
    return found


def functions(tree):
    return [node for node in ast.walk(tree) if isinstance(node, ast.FunctionDef)]


def parameters(node):
    every = node.args.posonlyargs + node.args.args + node.args.kwonlyargs
    return every + [star for star in (node.args.vararg, node.args.kwarg) if star is not None]


def bound_names(tree):
    """Pairs (line, name) of all functions, classes, parameters and variables, methods left out."""
    methods = {m for c in ast.walk(tree) if isinstance(c, ast.ClassDef) for m in c.body if isinstance(m, ast.FunctionDef)}
    for node in ast.walk(tree):
        if isinstance(node, ast.ClassDef) or (isinstance(node, ast.FunctionDef) and node not in methods):
            yield node.lineno, node.name
        if isinstance(node, (ast.FunctionDef, ast.Lambda)):
            yield from ((arg.lineno, arg.arg) for arg in parameters(node))
        if isinstance(node, ast.Name) and isinstance(node.ctx, ast.Store):
            yield node.lineno, node.id
        if isinstance(node, ast.ExceptHandler) and node.name is not None:
            yield node.lineno, node.name
        if isinstance(node, ast.ImportFrom):
            yield from ((node.lineno, alias.asname or alias.name) for alias in node.names)


def is_plain(node):
    """True for a literal, or a list, a tuple or a dict of literals (L3)."""
    if isinstance(node, (ast.Tuple, ast.List)):
        return all(is_plain(part) for part in node.elts)
    if isinstance(node, ast.Dict):
        return all(is_plain(part) for part in node.keys + node.values)
    if isinstance(node, ast.UnaryOp) and isinstance(node.op, ast.USub):
        return isinstance(node.operand, ast.Constant)
    return isinstance(node, ast.Constant)


def check_sizes(text, tree):
    """L10 and L14."""
    rows = text.split("\n")
    if len(rows) > FILE_LINES + 1:
        yield len(rows), "a file of more than 399 lines"
    if not text.endswith("\n") and text:
        yield len(rows), "no line feed at the end"
    for number, row in enumerate(rows, 1):
        if len(row) > LINE_SIGNS:
            yield number, "a line of more than 120 characters"
        if not re.fullmatch("[ -~]*", row):
            yield number, "a character that is neither from the space to ~ nor a line feed"
    for node in functions(tree):
        if node.end_lineno - node.lineno >= FUNCTION_LINES:
            yield node.lineno, "a function of more than 40 lines"


def check_imports(text, tree):
    """L2 and L16, as far as one file shows them."""
    top = True
    for node in tree.body:
        docstring = isinstance(node, ast.Expr)
        top = top and (docstring or isinstance(node, ast.ImportFrom))
        if isinstance(node, ast.ImportFrom) and not top:
            yield node.lineno, "an import that does not stand at the top"
    for node in ast.walk(tree):
        if isinstance(node, ast.Import):
            yield node.lineno, "import without from"
        if isinstance(node, ast.ImportFrom):
            allowed = LIBRARY.get(node.module)
            if node not in tree.body or node.level or "*" in [alias.name for alias in node.names]:
                yield node.lineno, "an import in a function, with a dot or with a star"
            elif allowed is not None:
                for alias in node.names:
                    if alias.name not in allowed or alias.asname:
                        yield node.lineno, f"{alias.name} of the library"
            elif not node.module.startswith("leastreader."):
                yield node.lineno, "an import from outside of the package"


def check_module_level(text, tree):
    """L3 and L15."""
    names = []
    for at, node in enumerate(tree.body):
        if isinstance(node, ast.Expr):
            if at > 0 or not isinstance(node.value, ast.Constant):
                yield node.lineno, "a statement at module level"
        elif isinstance(node, ast.Assign):
            if len(node.targets) != 1 or not isinstance(node.targets[0], ast.Name) or not is_plain(node.value):
                yield node.lineno, "no plain value at module level"
            inner = [part for part in ast.walk(node.value) if part is not node.value]
            if any(isinstance(part, (ast.List, ast.Dict)) for part in inner):
                yield node.lineno, "a list or a dict within another value at module level"
            names += [target.id for target in node.targets if isinstance(target, ast.Name)]
        elif isinstance(node, (ast.FunctionDef, ast.ClassDef)):
            names.append(node.name)
        elif isinstance(node, ast.ImportFrom):
            names += [alias.asname or alias.name for alias in node.names]
        else:
            yield node.lineno, "a statement at module level"
    for name in names:
        if names.count(name) > 1:
            yield 1, f"{name} is bound more than once at module level"
    taken = {node.name for node in tree.body if isinstance(node, ast.ClassDef)}
    for node in tree.body:
        if isinstance(node, ast.ImportFrom):
            taken |= {alias.asname or alias.name for alias in node.names}
    for function in functions(tree):
        for line, name in bound_names(function):
            if name in taken:
                yield line, f"{name} is the name of a class or an import of the file"


def check_names(text, tree):
    """L8, L12, L15 and L17."""
    known = {name for _, name in bound_names(tree)}
    # A setter names its property.
    known |= {node.name for node in functions(tree) for mark in node.decorator_list if isinstance(mark, ast.Attribute)}
    for line, name in bound_names(tree):
        if hasattr(builtins, name):
            yield line, f"{name} is the name of a builtin"
        if not PLAIN_NAME.fullmatch(name) or name in BARRED:
            yield line, f"{name} is not a plain name"
    for node in ast.walk(tree):
        if isinstance(node, ast.Name) and isinstance(node.ctx, ast.Load):
            if node.id not in known and node.id not in BUILTINS and node.id not in ("property", "classmethod", "staticmethod"):
                yield node.lineno, f"{node.id} is not known"
            if node.id == "_":
                yield node.lineno, "_ is read"
        if isinstance(node, ast.Attribute):
            if not PLAIN_NAME.fullmatch(node.attr) and node.attr != "__init__":
                yield node.lineno, f"{node.attr} is not a plain name"
            if node.attr in ("register", "mro", "elements", "format", "format_map", "args"):
                yield node.lineno, f"an attribute {node.attr}"
        if isinstance(node, ast.FunctionDef) and node.name.startswith("__") and node.name not in DUNDERS:
            yield node.lineno, f"a method {node.name}"
    skipped = {line for node in docstrings(tree) for line in range(node.lineno, node.end_lineno + 1)}
    for number, row in enumerate(text.split("\n"), 1):
        code = row.partition("#")[0]
        if number not in skipped and WORDS.search(code):
            yield number, f"the word {WORDS.search(code)[0]}"
        if "_wall" in row:
            yield number, "_wall"


def check_statements(text, tree):
    """L4, L6, L19, L20 and L21."""
    for node in ast.walk(tree):
        if isinstance(node, ast.stmt) and not isinstance(node, STATEMENTS):
            yield node.lineno, f"a statement {node.__class__.__name__}"
        if isinstance(node, ast.FunctionDef):
            if node.returns is not None or any(arg.annotation for arg in parameters(node)):
                yield node.lineno, "an annotation"
            for mark in node.decorator_list:
                setter = isinstance(mark, ast.Attribute) and mark.attr == "setter"
                if not setter and getattr(mark, "id", None) not in ("property", "classmethod", "staticmethod"):
                    yield node.lineno, "a decorator"
            for default in node.args.defaults + [value for value in node.args.kw_defaults if value is not None]:
                if not is_plain(default) or isinstance(default, (ast.List, ast.Dict)):
                    yield node.lineno, "a default value that is not plain"
        if isinstance(node, ast.ClassDef) and (node.decorator_list or node.keywords):
            yield node.lineno, "a decorator or a keyword of a class"
        if isinstance(node, ast.ExceptHandler) and not isinstance(node.type, (ast.Name, ast.Tuple)):
            yield node.lineno, "an except without a named error"
        if isinstance(node, ast.Raise) and node.exc is not None:
            if not isinstance(node.exc, ast.Call) or not isinstance(node.exc.func, ast.Name):
                yield node.lineno, "raise of what is not created on the spot"
        if isinstance(node, ast.Compare):
            for operator, side in zip(node.ops, node.comparators):
                if isinstance(operator, (ast.Is, ast.IsNot)):
                    if not isinstance(side, ast.Constant) or side.value not in (None, True, False):
                        yield node.lineno, "is beside what is not None, True or False"


def check_values(text, tree):
    """L7, L13, L23, L24 and L27."""
    above = {child: node for node in ast.walk(tree) for child in ast.iter_child_nodes(node)}
    skipped = docstrings(tree)
    for node in ast.walk(tree):
        parent = above.get(node)
        called = parent.func.id if isinstance(parent, ast.Call) and isinstance(parent.func, ast.Name) else None
        if isinstance(node, ast.Constant):
            if isinstance(node.value, (float, complex, bytes)) or node.value is Ellipsis:
                yield node.lineno, "a value that is neither an integer nor a string"
            if isinstance(node.value, str) and "%" in node.value and node not in skipped:
                yield node.lineno, "the character % in a string"
        if isinstance(node, (ast.Div, ast.MatMult)):
            yield getattr(parent, "lineno", 0), "the operator / or @"
        if isinstance(node, ast.BinOp) and isinstance(node.op, ast.Pow):
            power = node.right
            if not isinstance(power, ast.Constant) or power.value not in range(65):
                yield node.lineno, "an exponent that is not a literal from 0 to 64"
        if isinstance(node, ast.GeneratorExp) and called not in ("list", "tuple", "dict"):
            # Other calls take a list, because classes of the package have an __eq__ (L7).
            yield node.lineno, "a generator expression"
        if isinstance(node, (ast.YieldFrom, ast.Await, ast.AnnAssign)):
            yield node.lineno, "yield from, await or an annotation"
        is_set = isinstance(node, ast.SetComp)
        is_set = is_set or (isinstance(node, ast.Call) and isinstance(node.func, ast.Name) and node.func.id == "set")
        if is_set and called not in ("len", "sorted") and not isinstance(parent, (ast.Compare, ast.Assign)):
            yield node.lineno, "a set that is neither measured, sorted, compared nor assigned"
        if isinstance(node, ast.Set) and len(node.elts) > 2 and not isinstance(parent, ast.Compare):
            yield node.lineno, "a literal set"
        views = isinstance(node, ast.Call) and isinstance(node.func, ast.Name)
        if views and node.func.id in ("zip", "enumerate", "reversed") and isinstance(parent, (ast.Return, ast.Compare)):
            yield node.lineno, "what is iterated at once is kept"


def check_generators(text, tree):
    """L23: a yield is a statement of a function at module level, which no file of the package calls."""
    makers = set()
    for function in functions(tree):
        yields = [node for node in ast.walk(function) if isinstance(node, ast.Yield)]
        if not yields:
            continue
        makers.add(function.name)
        statements = [node.value for node in ast.walk(function) if isinstance(node, ast.Expr)]
        barred = [part for node in ast.walk(function) if isinstance(node, (ast.Try, ast.With)) for part in ast.walk(node)]
        for node in yields:
            if node not in statements or node in barred or function not in tree.body:
                yield node.lineno, "a yield that is no statement of a function, or under a try or a with"
        for node in ast.walk(function):
            if isinstance(node, ast.Return) and node.value is not None:
                yield node.lineno, "a generator that returns a value"
    for node in ast.walk(tree):
        if isinstance(node, ast.Name) and node.id in makers:
            yield node.lineno, f"the generator {node.id} is used"


def check_calls(text, tree, own):
    """L22 and L25; own are the names of the methods of the package."""
    for node in ast.walk(tree):
        if not isinstance(node, ast.Call):
            continue
        if isinstance(node.func, ast.Attribute):
            name = node.func.attr
            if name not in METHODS and name not in own and name != "__init__":
                yield node.lineno, f"a call of a method {name}"
            if name in METHODS and node.keywords and name != "sort":
                yield node.lineno, f"a keyword of a method {name}"
        if isinstance(node.func, ast.Name) and node.func.id in BUILTINS:
            allowed = {
                "sorted": ("key", "reverse"), "min": ("key", "default"), "max": ("key", "default"), "sum": ("start",),
                "enumerate": ("start",), "zip": ("strict",)}.get(node.func.id, ())
            for keyword in node.keywords:
                if keyword.arg not in allowed:
                    yield node.lineno, f"a keyword of {node.func.id}"


def check_classes(text, tree):
    """L5 and L28, as far as one class shows them."""
    for node in ast.walk(tree):
        if not isinstance(node, ast.ClassDef):
            continue
        names = [part.name for part in node.body if isinstance(part, ast.FunctionDef)]
        for at, part in enumerate(node.body):
            docstring = at == 0 and isinstance(part, ast.Expr)
            if not docstring and not isinstance(part, (ast.FunctionDef, ast.Assign)):
                yield part.lineno, "what is no method in the body of a class"
        stored = {
            part.attr for part in ast.walk(node) if isinstance(part, ast.Attribute) and isinstance(part.ctx, ast.Store)}
        for name in names:
            if name in stored:
                yield node.lineno, f"{name} is a method and an attribute"
        for part in node.body:
            if isinstance(part, ast.FunctionDef) and part.name == "__iter__" and len(part.body) != 1:
                yield part.lineno, "__iter__ of more than one statement"
            if isinstance(part, ast.FunctionDef) and part.name == "__len__":
                if not isinstance(part.body[-1], ast.Return):
                    yield part.lineno, "__len__ that does not end with return"


def check_library(text, tree):
    """L2: what comes from the library is only called, by its bare name, in a function that is no property."""
    names = {
        alias.name for node in tree.body if isinstance(node, ast.ImportFrom) and node.module in LIBRARY for alias in node.names}
    called = {node.func for node in ast.walk(tree) if isinstance(node, ast.Call) and not node.keywords}
    for node in ast.walk(tree):
        if isinstance(node, ast.Name) and node.id in names and node not in called:
            yield node.lineno, f"{node.id} is not called, or not by position"
    for function in functions(tree):
        if function.decorator_list or function.name.startswith("__"):
            for node in ast.walk(function):
                if isinstance(node, ast.Name) and node.id in names:
                    yield node.lineno, f"{node.id} in a property or a double-underscore method"


def check_with(text, tree):
    """L6: what stands behind with, and the rows of __exit__."""
    simple = (ast.Name, ast.Attribute, ast.Constant)
    for node in ast.walk(tree):
        if isinstance(node, ast.With):
            for item in node.items:
                if not isinstance(item.context_expr, (ast.Call, ast.Name, ast.Attribute)):
                    yield node.lineno, "a with over what is no call, name or attribute"
        if isinstance(node, ast.FunctionDef) and node.name == "__exit__":
            for row in node.body:
                if not isinstance(row, ast.Assign) or len(row.targets) != 1 or not isinstance(row.value, simple):
                    yield row.lineno, "__exit__ does more than assign names and attributes"


def iterated(node):
    """The written forms of what a loop or a comprehension iterates over."""
    if isinstance(node, ast.IfExp):
        return iterated(node.body) + iterated(node.orelse)
    if isinstance(node, ast.Call) and isinstance(node.func, ast.Name) and node.func.id in ("enumerate", "zip", "reversed"):
        return [form for part in node.args for form in iterated(part)]
    if isinstance(node, ast.Call) and isinstance(node.func, ast.Attribute) and node.func.attr in ("items", "keys", "values"):
        return iterated(node.func.value)
    return [ast.unparse(node)] if isinstance(node, (ast.Name, ast.Attribute, ast.Subscript)) else []


def modified(node):
    """The written form of what a node modifies, or None."""
    if isinstance(node, ast.Call) and isinstance(node.func, ast.Attribute) and node.func.attr in (
            "append", "clear", "extend", "insert", "pop", "remove", "reverse", "setdefault", "update", "add", "discard"):
        return ast.unparse(node.func.value)
    if isinstance(node, ast.Call) and isinstance(node.func, ast.Name) and node.func.id in LIBRARY["heapq"] and node.args:
        return ast.unparse(node.args[0])
    if isinstance(node, ast.Subscript) and isinstance(node.ctx, (ast.Store, ast.Del)):
        return ast.unparse(node.value)
    return None


def check_loops(text, tree):
    """L23: what a loop or a comprehension iterates over is not modified in it."""
    for node in ast.walk(tree):
        if isinstance(node, ast.For):
            over, inner = iterated(node.iter), node.body
        elif isinstance(node, (ast.ListComp, ast.SetComp, ast.DictComp, ast.GeneratorExp)):
            over, inner = [form for part in node.generators for form in iterated(part.iter)], [node]
        else:
            continue
        for part in (part for row in inner for part in ast.walk(row)):
            if modified(part) in over:
                yield part.lineno, f"{modified(part)} is modified while a loop iterates over it"


CHECKS = (
    check_sizes, check_imports, check_module_level, check_names, check_statements, check_values, check_generators,
    check_classes, check_library, check_with, check_loops)
