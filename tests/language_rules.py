"""Looks for breaches of the rules of the language that can be seen in the code of the package.

`breaches(files)` takes a dict from file names, as in `rows.py`, to their texts and returns a list of
complaints. The package uses less than the rules allow (no generators, annotations, star calls ..);
what it does not use is complained of as well.
"""

import ast
import builtins
import io
import re
import tokenize

PACKAGE = "pressworlds"

BUILTINS = set(dir(builtins))

ALLOWED_BUILTINS = set("""len range enumerate zip min max sum abs sorted reversed int str bool list tuple dict set
isinstance ord repr any all divmod Exception ValueError TypeError KeyError IndexError LookupError ZeroDivisionError
ArithmeticError OverflowError RuntimeError NotImplementedError AttributeError NotImplemented""".split())
ERROR_BUILTINS = {name for name in ALLOWED_BUILTINS if name.endswith("Error") or name == "Exception"}
LIBRARY = {
    "heapq": {"heappush", "heappop", "heapify", "heapreplace", "heappushpop"},
    "math": {"gcd", "lcm", "isqrt", "comb", "perm", "factorial"},
    "itertools": {"product", "combinations", "permutations", "chain", "accumulate", "pairwise", "islice",
                  "zip_longest"},
}
BUILTIN_METHODS = set("""append clear copy count endswith extend find get index insert isalnum isalpha isdigit islower
isspace isupper items join keys ljust lower lstrip partition pop remove replace reverse rfind rjust rpartition rsplit
rstrip setdefault split splitlines startswith strip update upper values zfill bit_length title capitalize swapcase
casefold center expandtabs removeprefix removesuffix rindex isascii isdecimal isnumeric istitle isidentifier
isprintable""".split())
MODIFIERS = set("append clear extend insert pop remove reverse setdefault update".split())
DUNDERS = set("""__init__ __eq__ __repr__ __str__ __len__ __enter__ __exit__ __call__ __iter__ __bool__""".split())
NEVER = set("register mro elements open input law version_info with_traceback add_note".split())
NOT_BOUND = set("""attrgetter breakpoint builtins compile copyright credits delattr dir eval exec exit gc getattr
globals hasattr help id importlib license locals methodcaller os quit setattr super type vars sys __name__""".split())
NO_WORDS = set("""type typing typing_extensions enum Enum IntEnum StrEnum Flag IntFlag Generic Protocol ABC ABCMeta
namedtuple NamedTuple TypedDict TYPE_CHECKING abstractmethod""".split())
NO_PARTS = ("dataclass", "overload", "contextmanager", "_wall", "_WallAttr")
STATEMENTS = (ast.FunctionDef, ast.ClassDef, ast.Return, ast.Delete, ast.Assign, ast.AugAssign, ast.For, ast.While,
              ast.If, ast.With, ast.Raise, ast.Try, ast.Assert, ast.ImportFrom, ast.Expr, ast.Pass, ast.Break,
              ast.Continue)
AT_ONCE = ("range", "zip", "enumerate", "reversed")
VIEWS = ("items", "keys", "values")
TAKERS = ("list", "tuple", "dict", "sorted", "sum", "any", "all", "enumerate", "zip", "min", "max")
MARKS = ("property", "classmethod", "staticmethod")
KINDS = ("int", "str", "bool", "tuple", "list", "dict")
FILE_LINES, FUNCTION_LINES, LINE_SIGNS, FILES = 399, 40, 120, 100


class Look:
    """A look through one file: its tree, with the parent of each node, and the complaints."""

    def __init__(self, name, text, package):
        self.name, self.text, self.package = name, text, package
        self.tree = ast.parse(text)
        self.parents = {}
        self.complaints = []
        for node in ast.walk(self.tree):
            for child in ast.iter_child_nodes(node):
                self.parents[child] = node

    def say(self, rule, node, what):
        line = node if isinstance(node, int) else getattr(node, "lineno", 0)
        self.complaints.append(f"{rule} {self.name}:{line} {what}")

    def of_kind(self, *kinds):
        return [node for node in ast.walk(self.tree) if isinstance(node, kinds)]

    def parent(self, node):
        return self.parents.get(node)

    def holder(self, node, *kinds):
        node = self.parent(node)
        while node is not None and not isinstance(node, kinds):
            node = self.parent(node)
        return node


class Package:
    """What the files of a package define together."""

    def __init__(self, files):
        self.trees = {name: ast.parse(text) for name, text in files.items()}
        self.defined = {}
        self.classes, self.errors, self.methods, self.attributes = set(), set(), set(), set()
        self.properties = set()
        for name, tree in self.trees.items():
            self.defined[name] = {node.name for node in tree.body if isinstance(node, (ast.FunctionDef, ast.ClassDef))}
            self.defined[name] |= {t.id for node in tree.body if isinstance(node, ast.Assign)
                                   for t in node.targets if isinstance(t, ast.Name)}
            for node in ast.walk(tree):
                if isinstance(node, ast.ClassDef):
                    self.take_class(node)
                if isinstance(node, ast.Attribute) and isinstance(node.ctx, ast.Store):
                    self.attributes.add(node.attr)
        self.imports = {name: imported_files(tree) for name, tree in self.trees.items()}

    def take_class(self, node):
        self.classes.add(node.name)
        bases = {base.id for base in node.bases if isinstance(base, ast.Name)}
        if bases & (ERROR_BUILTINS | self.errors):
            self.errors.add(node.name)
        for method in node.body:
            if isinstance(method, ast.FunctionDef):
                marks = {d.id for d in method.decorator_list if isinstance(d, ast.Name)}
                (self.properties if "property" in marks else self.methods).add(method.name)


def imported_files(tree):
    """Return the names of the files of the package that a file imports from."""
    return [node.module.split(".")[1] + ".py" for node in tree.body
            if isinstance(node, ast.ImportFrom) and node.module and node.module.startswith(PACKAGE + ".")]


def breaches(files):
    """Return all complaints about these files of a package."""
    package = Package(ordered(files))
    complaints = look_at_names(files)
    complaints += [f"L16 {name} imports from itself, over others" for name in files if reaches(package, name, name)]
    for name, text in files.items():
        look = Look(name, text, package)
        for rule in RULES:
            rule(look)
        complaints += look.complaints
    return complaints


def ordered(files):
    """Return the files with the one of errors first, so that its classes are known as errors."""
    return {name: files[name] for name in sorted(files, key=lambda name: (name != "errors.py", name))}


def reaches(package, start, goal):
    """Return whether a file imports another one, over further ones or not."""
    seen, todo = set(), list(package.imports[start])
    while todo:
        name = todo.pop()
        if name == goal:
            return True
        if name in package.imports and name not in seen:
            seen.add(name)
            todo += package.imports[name]
    return False


def look_at_names(files):
    """L1, L14: names and number of files."""
    complaints = [] if "__init__.py" in files else ["L14 no __init__.py"]
    if len(files) > FILES:
        complaints.append("L14 too many files")
    for name in files:
        stem = name[:-3] if name.endswith(".py") else "."
        bad = not re.fullmatch(r"[a-z0-9_]+", stem) or stem in NO_WORDS | NEVER or stem in BUILTINS
        if bad or stem.startswith(("test", "law_")) or stem in ("site", "conftest", "sitecustomize", "usercustomize"):
            complaints.append(f"L14 bad name of a file: {name}")
    return complaints


def sizes(look):
    """L10: lengths of files, lines and functions; L14: signs."""
    lines = look.text.split("\n")
    if len(lines) - (lines[-1] == "") > FILE_LINES:
        look.say("L10", 0, "file too long")
    for at, line in enumerate(lines, 1):
        if len(line) > LINE_SIGNS:
            look.say("L10", at, "line too long")
        if any(not " " <= sign <= "~" for sign in line):
            look.say("L14", at, "a sign that is not from the space to ~")
    for node in look.of_kind(ast.FunctionDef):
        if node.end_lineno - node.lineno + 1 > FUNCTION_LINES:
            look.say("L10", node, "function too long")


def is_docstring(node):
    return isinstance(node, ast.Expr) and isinstance(node.value, ast.Constant) and isinstance(node.value.value, str)


def module_level(look):
    """L2, L3, L15, L16: what stands at module level, and what is imported."""
    bound, over = [], False
    for at, node in enumerate(look.tree.body):
        if isinstance(node, ast.ImportFrom):
            if over:
                look.say("L2", node, "import behind other things")
            check_import(look, node)
            bound += [name.name for name in node.names]
        elif at == 0 and is_docstring(node):
            continue
        elif isinstance(node, (ast.FunctionDef, ast.ClassDef)):
            over = True
            bound.append(node.name)
        elif isinstance(node, ast.Assign) and len(node.targets) == 1 and isinstance(node.targets[0], ast.Name):
            over = True
            bound.append(node.targets[0].id)
            if not is_plain(node.value, 0):
                look.say("L3", node, "no plain value")
        else:
            look.say("L3", node, "may not stand at module level")
    for name in bound:
        if bound.count(name) > 1:
            look.say("L15", 0, f"{name} is bound twice")
        if name in BUILTINS:
            look.say("L15", 0, f"{name} is a builtin")


def check_import(look, node):
    """L2, L16: full names, from the file that defines them, or from the few modules of the library."""
    if node.level or any(name.asname or name.name == "*" for name in node.names):
        look.say("L2", node, "no plain import")
    names = {name.name for name in node.names}
    if node.module in LIBRARY:
        if not names <= LIBRARY[node.module]:
            look.say("L2", node, "not of the library's names")
    elif node.module and node.module.startswith(PACKAGE + "."):
        if not names <= look.package.defined.get(node.module.split(".", 1)[1] + ".py", set()):
            look.say("L16", node, "not defined there")
    else:
        look.say("L2", node, "imported from elsewhere")


def is_plain(node, deep):
    """Return whether an expression is a plain value, with no list or dict within another one."""
    if isinstance(node, ast.Constant):
        return not isinstance(node.value, (float, complex))
    if isinstance(node, ast.UnaryOp):
        return isinstance(node.op, ast.USub) and is_plain(node.operand, deep)
    if isinstance(node, ast.BinOp):
        return isinstance(node.op, (ast.Pow, ast.Add, ast.Mult)) and is_plain(node.left, 1) and is_plain(node.right, 1)
    if isinstance(node, ast.Tuple):
        return all(is_plain(item, 1) for item in node.elts)
    if isinstance(node, ast.List):
        return deep == 0 and all(is_plain(item, 1) for item in node.elts)
    if isinstance(node, ast.Dict):
        return deep == 0 and all(key is not None and is_plain(key, 1) for key in node.keys) and all(
            is_plain(item, 1) for item in node.values)
    return False


def functions_and_classes(look):
    """L4, L5, L21, L28: decorators, defaults, annotations, double-underscore methods."""
    for node in look.of_kind(ast.FunctionDef, ast.Lambda):
        spots = node.args
        if any(arg.annotation for arg in spots.args + spots.kwonlyargs) or getattr(node, "returns", None):
            look.say("L21", node, "annotation")
        if spots.vararg or spots.kwarg or spots.posonlyargs or spots.kwonlyargs:
            look.say("L4", node, "more than plain parameters")
        if any(not is_plain(value, 1) for value in spots.defaults):
            look.say("L4", node, "default that is not plain")
    for node in look.of_kind(ast.FunctionDef):
        in_class = isinstance(look.parent(node), ast.ClassDef)
        marks = [ast.unparse(mark) for mark in node.decorator_list]
        if len(marks) > 1 or any(not in_class or mark not in MARKS for mark in marks):
            look.say("L4", node, "decorator")
        if node.name.startswith("__") and (not in_class or node.name not in DUNDERS):
            look.say("L5", node, f"no method of the kind {node.name}")
        check_returns(look, node)
    for node in look.of_kind(ast.ClassDef):
        if node.decorator_list or node.keywords or not isinstance(look.parent(node), ast.Module):
            look.say("L5", node, "no plain class")
        for part in node.body:
            if not isinstance(part, ast.FunctionDef) and not is_docstring(part):
                look.say("L5", part, "no method")
        methods = [part.name for part in node.body if isinstance(part, ast.FunctionDef)]
        own = {a.attr for a in ast.walk(node) if isinstance(a, ast.Attribute) and isinstance(a.ctx, ast.Store)}
        if len(methods) != len(set(methods)) or own & set(methods):
            look.say("L18", node, "a name is twice a method, or a method and an attribute")
    for name in look.package.attributes & look.package.properties:
        look.say("L5", 0, f"attribute {name} has the name of a property")


def check_returns(look, node):
    """L28: what __len__, __str__, __repr__, __bool__ and __init__ return."""
    forms = {"__len__": ("len",), "__str__": ("str", "repr"), "__repr__": ("str", "repr"), "__bool__": ("bool",)}
    returns = [part for part in ast.walk(node) if isinstance(part, ast.Return)]
    if node.name == "__init__" and returns:
        look.say("L28", node, "__init__ returns")
    for part in returns if node.name in forms else []:
        value = part.value
        called = isinstance(value, ast.Call) and isinstance(value.func, ast.Name) and value.func.id in forms[node.name]
        text = node.name in ("__str__", "__repr__") and isinstance(value, ast.JoinedStr)
        joined = node.name in ("__str__", "__repr__") and isinstance(value, ast.Call) and isinstance(
            value.func, ast.Attribute) and value.func.attr == "join" and isinstance(value.func.value, ast.Constant)
        if not (called or text or joined or isinstance(value, ast.Constant)):
            look.say("L28", part, f"{node.name} returns something else")
    if node.name in forms and not isinstance(node.body[-1], ast.Return):
        look.say("L28", node, "no return at the end")
    if node.name in ("__eq__", "__len__", "__str__", "__repr__", "__bool__") and any(
            isinstance(part, (ast.Assign, ast.AugAssign, ast.Delete)) for part in ast.walk(node)):
        look.say("L28", node, "assigns")


def statements(look):
    """L6: the kinds of statements; where imports and classes stand."""
    for node in ast.walk(look.tree):
        if isinstance(node, ast.stmt) and not isinstance(node, STATEMENTS):
            look.say("L6", node, f"statement {type(node).__name__}")
        if isinstance(node, ast.Expr) and not is_docstring(node) and not isinstance(node.value, ast.Call):
            look.say("L6", node, "a value alone on its line")
    for node in look.of_kind(ast.ImportFrom, ast.Import):
        if isinstance(node, ast.Import) or not isinstance(look.parent(node), ast.Module):
            look.say("L2", node, "import of another kind, or in a function")


def trials(look):
    """L6 With: over what with statements stand, and the few rows that __exit__ may have."""
    for node in look.of_kind(ast.With):
        for item in node.items:
            over, name = item.context_expr, item.optional_vars
            if not isinstance(over, (ast.Call, ast.Name, ast.Attribute)) or not isinstance(name,
                    (ast.Name, type(None))):
                look.say("L6", node, "with over something else")
    for node in look.of_kind(ast.FunctionDef):
        if node.name == "__exit__":
            names = [arg.arg for arg in node.args.args]
            if len(names) != 4:
                look.say("L6", node, "other parameters")
            for row in node.body:
                check_exit_row(look, row, names[1:])


def check_exit_row(look, row, told):
    """Check one row of __exit__: an assignment of something simple, or a question whether there was an exception."""
    if isinstance(row, ast.If) and not row.orelse:
        if ast.unparse(row.test) not in (f"{told[0]} is None", f"{told[0]} is not None"):
            look.say("L6", row, "another question in __exit__")
        for inner in row.body:
            check_exit_row(look, inner, told)
    elif isinstance(row, ast.Assign) and len(row.targets) == 1:
        target = row.targets[0]
        owned = isinstance(target, ast.Attribute) and isinstance(target.value, ast.Name)
        kept = isinstance(target, ast.Name) and re.fullmatch(r"self\.\w+", ast.unparse(row.value))
        simple = re.fullmatch(r"\w+(\.\w+)*", ast.unparse(row.value)) and not set(told) & {
            part.id for part in ast.walk(row.value) if isinstance(part, ast.Name)}
        if not (kept or owned and simple):
            look.say("L6", row, "no simple row in __exit__")
    elif not isinstance(row, ast.Pass) and not is_docstring(row):
        look.say("L6", row, "no simple row in __exit__")


def expressions(look):
    """L7, L20, L27: floats, division, kinds of expressions, `is`, exponents."""
    kinds = (ast.GeneratorExp, ast.Await, ast.Yield, ast.YieldFrom, ast.Starred, ast.NamedExpr)
    for node in ast.walk(look.tree):
        wrong = isinstance(node, ast.Constant) and isinstance(node.value, (float, complex, bytes))
        if wrong or isinstance(node, ast.Div):
            look.say("L7", node, "float, bytes or /")
        if isinstance(node, kinds):
            look.say("L7", node, type(node).__name__)
        if isinstance(node, ast.MatMult):
            look.say("L7", node, "@")
        if isinstance(node, ast.Compare):
            check_is(look, node)
        if isinstance(node, (ast.BinOp, ast.AugAssign)) and isinstance(node.op, ast.Pow):
            power = node.right if isinstance(node, ast.BinOp) else node.value
            if not (isinstance(power, ast.Constant) and isinstance(power.value, int) and 0 <= power.value <= 64):
                look.say("L27", node, "exponent")
        if isinstance(node, (ast.ListComp, ast.DictComp, ast.SetComp)) and look.holder(node, ast.FunctionDef) is None:
            look.say("L7", node, "comprehension outside of a function")
        if isinstance(node, ast.FormattedValue) and (node.format_spec is not None or node.conversion == 97):
            look.say("L7", node, "format")


def check_is(look, node):
    for at, op in enumerate(node.ops):
        if isinstance(op, (ast.Is, ast.IsNot)):
            sides = ([node.left] + node.comparators)[at:at + 2]
            if not any(isinstance(side, ast.Constant) and side.value in (None, True, False) for side in sides):
                look.say("L20", node, "is")


def bound_in(node):
    """Return the names that a function binds: parameters, variables, caught errors."""
    names = set()
    for part in ast.walk(node):
        if isinstance(part, ast.arg):
            names.add(part.arg)
        if isinstance(part, ast.Name) and isinstance(part.ctx, (ast.Store, ast.Del)):
            names.add(part.id)
        if isinstance(part, ast.ExceptHandler) and part.name:
            names.add(part.name)
        if isinstance(part, (ast.FunctionDef, ast.ClassDef)) and part is not node:
            names.add(part.name)
    return names


def names(look):
    """L8, L12, L15, L17: names that are bound, and builtins that are used."""
    imported = {name.name for node in look.of_kind(ast.ImportFrom) for name in node.names}
    own_classes = {node.name for node in look.of_kind(ast.ClassDef)}
    top = look.package.defined[look.name] | imported
    for node in look.of_kind(ast.FunctionDef):
        for name in bound_in(node):
            if name in imported | own_classes or name in BUILTINS:
                look.say("L15", node, f"{name} is bound again")
    everywhere = set().union(*[bound_in(node) for node in look.of_kind(ast.FunctionDef)], set())
    for node in ast.walk(look.tree):
        if isinstance(node, ast.Name) and isinstance(node.ctx, ast.Load):
            if node.id == "_":
                look.say("L12", node, "_ is read")
            if node.id not in everywhere | top | ALLOWED_BUILTINS and node.id not in MARKS:
                look.say("L8", node, f"{node.id} is not allowed")
    told = [(node, node.attr) for node in look.of_kind(ast.Attribute)]
    told += [(node, node.name) for node in look.of_kind(ast.FunctionDef, ast.ClassDef)]
    told += [(node, node.id) for node in look.of_kind(ast.Name)] + [(node, node.arg) for node in look.of_kind(ast.arg)]
    for node, name in told:
        if not re.fullmatch(r"_?[A-Za-z][A-Za-z0-9_]*|_", name) and name not in DUNDERS:
            look.say("L12", node, f"name {name}")
        if name in NEVER or name in ("format", "format_map"):
            look.say("L17", node, f"name {name}")
        if re.match(r"_(wall|pe_|dcw_|enum_|cm_|twin_re_|lay_|law_|stub_|sre)", name):
            look.say("L12", node, f"name {name}")
        if name in NOT_BOUND and not isinstance(node, ast.Attribute):
            look.say("L17", node, f"name {name}")


def words(look):
    """L17, L27: words in the text but for comments and docstrings; signs and escapes in strings."""
    docs = {id(node.value) for node in look.of_kind(ast.Expr) if is_docstring(node)}
    for node in look.of_kind(ast.Constant):
        if isinstance(node.value, str) and id(node) not in docs:
            bad = set(re.findall(r"\w+", node.value)) & (NO_WORDS - {"type"})
            if bad or any(part in node.value for part in NO_PARTS):
                look.say("L17", node, "a word in a string")
            if "%" in node.value or node.value.endswith(("._", ".__")) or re.fullmatch(r"__.*__", node.value):
                look.say("L27", node, "a string")
        if isinstance(node.value, int) and abs(node.value) >= 10 ** 900:
            look.say("L27", node, "too long a number")
    for token in tokenize.generate_tokens(io.StringIO(look.text).readline):
        if token.type == tokenize.NAME and (token.string in NO_WORDS or any(part in token.string for part in NO_PARTS)):
            look.say("L17", token.start[0], f"word {token.string}")
        if token.type == tokenize.STRING and re.search(r"\\[^nt\\'\"]", token.string):
            look.say("L27", token.start[0], "an escape")


def errors(look):
    """L18, L19: what is caught and raised; where classes stand."""
    for node in look.of_kind(ast.ExceptHandler):
        kinds = node.type.elts if isinstance(node.type, ast.Tuple) else [node.type]
        for kind in kinds:
            name = kind.id if isinstance(kind, ast.Name) else None
            if name not in look.package.errors | {"KeyError", "ZeroDivisionError"}:
                look.say("L19", node, f"catches {name}")
    for node in look.of_kind(ast.Raise):
        made = node.exc
        if made is not None and not (isinstance(made, ast.Call) and isinstance(made.func, ast.Name)
                                     and made.func.id in look.package.errors | ERROR_BUILTINS):
            look.say("L19", node, "raises what is not made on the spot")
        if node.cause is not None and not (isinstance(node.cause, ast.Constant) and node.cause.value is None):
            look.say("L19", node, "raised from something")
    for node in look.of_kind(ast.Name):
        if node.id in look.package.classes and not is_class_place(look, node):
            look.say("L18", node, f"class {node.id} as a value")


def is_class_place(look, node):
    above = look.parent(node)
    if isinstance(above, ast.Tuple):
        node, above = above, look.parent(above)
    if isinstance(above, ast.Call):
        inside = isinstance(above.func, ast.Name) and above.func.id == "isinstance" and above.args[1] is node
        return above.func is node or inside
    if isinstance(above, ast.Attribute):
        return isinstance(look.parent(above), ast.Call) and look.parent(above).func is above
    return isinstance(above, (ast.ClassDef, ast.ExceptHandler))


def calls(look):
    """L7, L22, L25, L26: keywords, stars, isinstance, methods of builtin values."""
    keywords = {"sorted": {"key", "reverse"}, "min": {"key", "default"}, "max": {"key", "default"}, "sum": {"start"},
                "enumerate": {"start"}, "zip": {"strict"}}
    for node in look.of_kind(ast.Call):
        given = {keyword.arg for keyword in node.keywords}
        if None in given:
            look.say("L7", node, "a call with **")
        if isinstance(node.func, ast.Name) and node.func.id in BUILTINS:
            if not given <= keywords.get(node.func.id, set()):
                look.say("L22", node, "keyword of a builtin")
            if node.func.id in ("min", "max", "sum", "sorted", "any", "all") and len(node.args) == 0:
                look.say("L22", node, "without arguments")
        if isinstance(node.func, ast.Attribute):
            own = look.package.methods
            if node.func.attr not in BUILTIN_METHODS | own:
                look.say("L25", node, f"method {node.func.attr}")
            if node.func.attr not in own and given:
                look.say("L25", node, "keyword of a method")
            if node.func.attr in VIEWS and node.args:
                look.say("L25", node, "view with arguments")
    for name in look.package.methods & (BUILTIN_METHODS | set(dir(str) + dir(list) + dir(dict) + dir(int)) - DUNDERS):
        if name not in DUNDERS:
            look.say("L26", 0, f"own method {name}")
    for name in look.package.attributes | look.package.properties:
        if hasattr(str, name) or hasattr(list, name) or hasattr(dict, name) or hasattr(int, name):
            if name not in ("index", "count"):
                look.say("L26", 0, f"own attribute {name}")
    for node in look.of_kind(ast.Name):
        above = look.parent(node)
        if node.id in ALLOWED_BUILTINS - ERROR_BUILTINS and node.id != "NotImplemented":
            called = isinstance(above, ast.Call) and above.func is node
            keyed = isinstance(above, ast.keyword) and above.arg == "key"
            asked = isinstance(above, (ast.Call, ast.Tuple)) and node.id in KINDS
            if not (called or keyed or asked):
                look.say("L22", node, f"{node.id} as a value")


def iterations(look):
    """L23: what is iterated at once, and what is changed while it is iterated over."""
    for node in look.of_kind(ast.Call):
        plain = isinstance(node.func, ast.Name) and node.func.id in AT_ONCE
        view = isinstance(node.func, ast.Attribute) and node.func.attr in VIEWS
        if plain or view:
            above = look.parent(node)
            looped = isinstance(above, (ast.For, ast.comprehension)) and above.iter is node
            taken = isinstance(above, ast.Call) and isinstance(above.func, ast.Name) and above.func.id in TAKERS
            turned = isinstance(above, ast.Call) and isinstance(above.func, ast.Name) and above.func.id in (
                "reversed", "combinations") and plain and node.func.id == "range"
            if not (looped or taken or turned):
                look.say("L23", node, "not iterated at once")
    for node in look.of_kind(ast.For):
        over = {ast.unparse(part) for part in ast.walk(node.iter) if isinstance(part, (ast.Name, ast.Attribute))
                and not (isinstance(look.parent(part), ast.Call) and look.parent(part).func is part)}
        if isinstance(node.iter, ast.Call) and ast.unparse(node.iter.func) in ("range", "list"):
            continue
        if isinstance(node.iter, ast.Call) and node.iter.args and ast.unparse(node.iter.args[0]).startswith("list("):
            continue
        for row in node.body:
            for changed in changed_in(row):
                if changed in over:
                    look.say("L23", row, f"{changed} is changed in its own loop")


def changed_in(row):
    """Return the texts of what a statement changes in place: by an item, a modifying method, or a heap."""
    changed = []
    for part in ast.walk(row):
        if isinstance(part, ast.Subscript) and isinstance(part.ctx, (ast.Store, ast.Del)):
            base = part.value
            while isinstance(base, ast.Subscript):
                base = base.value
            changed.append(ast.unparse(base))
        if isinstance(part, ast.Call) and isinstance(part.func, ast.Attribute) and part.func.attr in MODIFIERS:
            base = part.func.value
            while isinstance(base, ast.Subscript):
                base = base.value
            changed.append(ast.unparse(base))
        if isinstance(part, ast.Call) and isinstance(part.func, ast.Name) and part.func.id.startswith("heap"):
            changed.append(ast.unparse(part.args[0]))
    return changed


def sets(look):
    """L24: sets only in `sorted`, in `len`, and behind `in`."""
    for node in ast.walk(look.tree):
        made = isinstance(node, ast.Call) and isinstance(node.func, ast.Name) and node.func.id in ("set", "frozenset")
        if made or isinstance(node, (ast.Set, ast.SetComp)):
            above = look.parent(node)
            taken = isinstance(above, ast.Call) and ast.unparse(above.func) in ("sorted", "len")
            behind = isinstance(above, ast.Compare) and node in above.comparators
            tested = behind and isinstance(above.ops[0], (ast.In, ast.NotIn))
            if not (taken or tested):
                look.say("L24", node, "set")


RULES = [sizes, module_level, functions_and_classes, statements, trials, expressions, names, words, errors, calls,
         iterations,
         sets]
