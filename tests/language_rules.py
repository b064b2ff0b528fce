"""Looks through the package's files for what ../shared/LANGUAGE.md, L1 to L28, keeps out.

Where a rule leaves room that the package doesn't use, this look is narrower than the rule: no annotation at all (L21),
no tuple on an assignment's left (L6), no handler for ValueError, LookupError or IndexError (L19), no letter ahead of a
text but f (L27). What no look can see (parts of L11 and L15) stays with the reader.
"""

import ast
import builtins
import io
import re
import tokenize

PACKAGE = "shapefile"

FUNCTIONS_OF_L8 = set("""len range enumerate zip min max sum abs sorted reversed int str bool list tuple dict set
frozenset isinstance ord repr any all divmod""".split())
ERRORS_OF_L8 = set("""Exception ValueError TypeError KeyError IndexError LookupError ZeroDivisionError ArithmeticError
OverflowError RuntimeError NotImplementedError AttributeError StopIteration""".split())
KINDS_FOR_ISINSTANCE = set("int str bool list tuple dict".split())
KEYS_OF_L22 = set("len int str abs sum min max tuple".split())
KEYWORDS_OF_L22 = {"sorted": {"key", "reverse"}, "min": {"key", "default"}, "max": {"key", "default"},
                   "sum": {"start"}, "enumerate": {"start"}, "zip": {"strict"}}
DUNDER_METHODS = set("__init__ __eq__ __repr__ __str__ __len__".split())
DUNDER_NAMES = DUNDER_METHODS | {"__all__", "__version__", "__name__"}
METHODS_OF_L25 = set("""append clear copy count endswith extend find get index insert isalnum isalpha isdigit islower
isspace isupper items join keys ljust lower lstrip partition pop remove replace reverse rfind rjust rpartition rsplit
rstrip setdefault split splitlines startswith strip update upper values zfill bit_length""".split())
CHANGING_METHODS = set("append clear extend insert pop remove reverse setdefault update add discard".split())
VALUES_OF_L26 = set("count index title find get join lower upper split strip copy add".split())
NEVER_OF_L17 = set("""register mro elements open input version_info with_traceback add_note""".split())
FRAMES_OF_L17 = re.compile(r"(f|tb|co|gi|cr|ag)_(back|code|globals|locals|builtins|line\w*|last\w*|trace\w*|next|frame"
                           r"|names|consts|\w*vars|argcount|\w*count|flags|filename|name|qualname|stacksize|await"
                           r"|running|suspended|yieldfrom|origin|positions|exceptiontable)$")
NOT_NAMES_OF_L17 = set("""attrgetter breakpoint builtins compile copyright credits delattr dir eval exec exit gc getattr
globals hasattr help id importlib license locals methodcaller os quit setattr super type vars sys""".split())
WORDS_OF_L17 = re.compile(r"\b(type|typing|typing_extensions|enum|Enum|IntEnum|StrEnum|Flag|IntFlag|Generic|Protocol"
                          r"|ABC|ABCMeta|namedtuple|NamedTuple|TypedDict|TYPE_CHECKING|abstractmethod)\b"
                          r"|dataclass|overload|contextmanager")
FILE_NAMES_OF_L14 = set("test tests testing site conftest sitecustomize usercustomize".split())
OWN_NAMES_OF_PYTHON = set(dir(builtins))
NAMES_OF_PYTHONS_VALUES = set()
for kind_of_value in (str, int, list, dict, set, frozenset, tuple, bytes, bytearray, float):
    NAMES_OF_PYTHONS_VALUES |= set(dir(kind_of_value))

STATEMENTS = (ast.FunctionDef, ast.ClassDef, ast.Return, ast.Assign, ast.AugAssign, ast.For, ast.While, ast.If,
              ast.Raise, ast.Try, ast.ImportFrom, ast.Import, ast.Expr, ast.Pass, ast.Break, ast.Continue)
EXPRESSIONS = (ast.BoolOp, ast.BinOp, ast.UnaryOp, ast.Lambda, ast.IfExp, ast.Dict, ast.Set, ast.ListComp, ast.Compare,
               ast.Call, ast.JoinedStr, ast.FormattedValue, ast.Constant, ast.Attribute, ast.Subscript, ast.Name,
               ast.List, ast.Tuple, ast.Slice)
OPERATORS_OUT = (ast.Div, ast.MatMult)
WALKED_CALLS = {"zip", "enumerate", "reversed", "range"}
WALKED_METHODS = {"items", "keys", "values"}
WALKERS_FIRST = {"list", "tuple", "dict", "sorted", "sum", "any", "all", "enumerate", "zip"}
READERS_OF_L15 = FUNCTIONS_OF_L8 - {"isinstance"}
READING_METHODS = set("get items keys values index count copy find".split())


def findings_of(files, package=PACKAGE):
    """Every breach, as (rule, path, row, words). files: each file's bytes by its path below the package's folder."""
    found = []
    modules = {}
    for path in sorted(files):
        found += file_findings(path, files[path])
        try:
            modules[path] = Module(path, files[path].decode("utf-8"), package)
        except (UnicodeDecodeError, SyntaxError) as error:
            found.append(("L1", path, 0, str(error)))
    for folder in {path.rpartition("/")[0] for path in files}:
        if (folder + "/__init__.py").lstrip("/") not in files:
            found.append(("L14", folder, 0, "no __init__.py"))
    methods = {name for module in modules.values() for name in module.methods}
    values = {name for module in modules.values() for name in module.values}
    classes = {name for module in modules.values() for name in module.classes}
    for name in sorted(methods & values):
        found.append(("L18", "", 0, f"{name} is a method and a value"))
    for module in modules.values():
        found += Look(module, methods, values, classes).findings()
    return found + import_findings(modules, package)


def file_findings(path, content):
    found = []
    parts = path.split("/")
    for part in parts:
        stem = part.removesuffix(".py")
        if not re.fullmatch(r"[a-z0-9_]+", stem):
            found.append(("L14", path, 0, "file's name"))
        if (stem in FILE_NAMES_OF_L14 or stem.startswith("test_") or stem in OWN_NAMES_OF_PYTHON
                or WORDS_OF_L17.search(stem)):
            found.append(("L14", path, 0, "file's name"))
    if not path.endswith(".py"):
        found.append(("L1", path, 0, "no .py file"))
    if parts[-1] == "__main__.py" and len(parts) > 1:
        found.append(("L14", path, 0, "__main__.py below the top"))
    rows = content.split(b"\n")
    if len(rows) - (rows[-1] == b"") > 400:
        found.append(("L10", path, 0, "more than 400 lines"))
    for number, row in enumerate(rows, 1):
        if len(row) > 120:
            found.append(("L10", path, number, "more than 120 characters"))
        if b"\t" in row:
            found.append(("L10", path, number, "a tab"))
        if any(byte < 32 or byte > 126 for byte in row):
            found.append(("L14", path, number, "a sign"))
        if WORDS_OF_L17.search(row.decode("latin-1")):
            found.append(("L17", path, number, "a word"))
    return found


class Module:
    """One file, parsed, with each node's parent and the names that its top binds."""

    def __init__(self, path, source, package):
        self.path = path
        self.source = source
        self.tree = ast.parse(source)
        self.dotted = dotted_name(path, package)
        self.is_main = path == "__main__.py"
        for node in ast.walk(self.tree):
            for child in ast.iter_child_nodes(node):
                child.parent = node
        self.tree.parent = None
        self.functions = [node.name for node in self.tree.body if isinstance(node, ast.FunctionDef)]
        self.classes = [node.name for node in self.tree.body if isinstance(node, ast.ClassDef)]
        self.imported = [alias.asname or alias.name for node in self.tree.body
                         if isinstance(node, (ast.Import, ast.ImportFrom)) for alias in node.names]
        self.plain = {}
        for node in self.tree.body:
            if isinstance(node, ast.Assign) and isinstance(node.targets[0], ast.Name):
                self.plain[node.targets[0].id] = node.value
        self.methods = [node.name for top in self.tree.body if isinstance(top, ast.ClassDef)
                        for node in top.body if isinstance(node, ast.FunctionDef)]
        self.values = [node.attr for node in ast.walk(self.tree)
                       if isinstance(node, ast.Attribute) and isinstance(node.ctx, ast.Store)]

    def own_names(self):
        return self.functions + self.classes + list(self.plain)


def dotted_name(path, package):
    parts = [package] + path.removesuffix(".py").split("/")
    if parts[-1] == "__init__":
        parts.pop()
    return ".".join(parts)


# --- imports, over all files (L2, L16)

def import_findings(modules, package):
    found = []
    by_name = {module.dotted: module for module in modules.values()}
    drawn = {}
    for path, module in modules.items():
        drawn[module.dotted] = set()
        for node in module.tree.body:
            if not isinstance(node, ast.ImportFrom) or node.module == "__future__":
                continue
            origin = by_name.get(node.module)
            if origin is None or origin.is_main:
                found.append(("L2", path, node.lineno, f"not the package's own file: {node.module}"))
                continue
            drawn[module.dotted] |= {origin.dotted} | packages_above(origin.dotted)
            for alias in node.names:
                if alias.name not in origin.own_names():
                    found.append(("L16", path, node.lineno, f"{alias.name} isn't defined in {node.module}"))
        if path.endswith("__init__.py"):
            inside = {other.rpartition(".")[2] for other in by_name if other.rpartition(".")[0] == module.dotted}
            for name in inside & set(module.own_names() + module.imported):
                found.append(("L16", path, 0, f"{name} is a file's name too"))
    for name in drawn:
        if name in reached_from(name, drawn):
            found.append(("L16", name, 0, "draws from itself in some steps"))
    return found


def packages_above(dotted):
    parts = dotted.split(".")
    return {".".join(parts[:size]) for size in range(1, len(parts))}


def reached_from(name, drawn):
    reached = set()
    ahead = list(drawn[name])
    while ahead:
        other = ahead.pop()
        if other not in reached:
            reached.add(other)
            ahead += drawn.get(other, ())
    return reached


# --- one file

class Look:
    def __init__(self, module, methods, values, classes):
        self.module = module
        self.methods = methods
        self.values = values
        self.classes = classes
        self.found = []

    def say(self, rule, node, text):
        self.found.append((rule, self.module.path, getattr(node, "lineno", 0), text))

    def findings(self):
        self.look_at_top()
        self.look_at_texts()
        for node in ast.walk(self.module.tree):
            if isinstance(node, ast.stmt):
                self.look_at_statement(node)
            elif isinstance(node, ast.expr):
                self.look_at_expression(node)
            self.look_at_identifiers(node)
            look = getattr(self, "look_at_" + type(node).__name__, None)
            if look is not None:
                look(node)
        return self.found

    # the top of the file (L2, L3, L15)

    def look_at_top(self):
        bound = []
        above = []
        imports_may_come = True
        for at, node in enumerate(self.module.tree.body):
            if at == 0 and is_docstring(node):
                continue
            if isinstance(node, (ast.Import, ast.ImportFrom)):
                bound += [alias.asname or alias.name for alias in node.names]
                if not imports_may_come:
                    self.say("L2", node, "an import that isn't at the top")
                continue
            imports_may_come = False
            if isinstance(node, (ast.FunctionDef, ast.ClassDef)):
                bound.append(node.name)
                if isinstance(node, ast.FunctionDef):
                    above.append(node.name)
            elif isinstance(node, ast.Assign) and isinstance(node.targets[0], ast.Name):
                bound.append(node.targets[0].id)
                self.look_at_top_value(node, above)
            elif not (self.module.is_main and isinstance(node, ast.If) and node is self.module.tree.body[-1]):
                self.say("L3", node, "not for a file's top")
        for name in {name for name in bound if bound.count(name) > 1}:
            self.say("L15", self.module.tree, f"{name} is bound twice")

    def look_at_top_value(self, node, above):
        if not is_plain(node.value, above):
            self.say("L3", node, "no plain value")
        if isinstance(node.value, (ast.List, ast.Dict)):
            inner = [child for child in ast.walk(node.value) if isinstance(child, (ast.List, ast.Dict))]
            if len(inner) > 1:
                self.say("L15", node, "a list or dict within a list or dict of the top")

    # the words of texts (L27)

    def look_at_texts(self):
        for token in tokenize.generate_tokens(io.StringIO(self.module.source).readline):
            name = tokenize.tok_name[token.type]
            if name not in ("STRING", "FSTRING_START", "FSTRING_MIDDLE"):
                continue
            row = token.start[0]
            if name != "FSTRING_MIDDLE" and not re.match(r"f?['\"]", token.string):
                self.found.append(("L27", self.module.path, row, "a text's prefix"))
            if re.sub(r"\\[nt\\'\"]", "", token.string).count("\\"):
                self.found.append(("L27", self.module.path, row, "an escape"))

    # statements (L4, L5, L6)

    def look_at_statement(self, node):
        if not isinstance(node, STATEMENTS):
            self.say("L6", node, type(node).__name__)

    def look_at_Expr(self, node):
        if not isinstance(node.value, ast.Call) and not is_docstring_in_place(node):
            self.say("L6", node, "no call by itself")

    def look_at_Assign(self, node):
        if len(node.targets) != 1 or isinstance(node.targets[0], (ast.Tuple, ast.List)):
            self.say("L6", node, "more than one target")

    def look_at_For(self, node):
        if node.orelse:
            self.say("L6", node, "else behind a loop")
        walked = {ast.dump(part) for part in walked_parts(node.iter)}
        for inner in [child for row in node.body for child in ast.walk(row)]:
            if any(ast.dump(load_form(part)) in walked for part in changed_parts(inner)):
                self.say("L23", inner, "what the loop walks is changed in it")

    def look_at_While(self, node):
        if node.orelse:
            self.say("L6", node, "else behind a loop")

    def look_at_Try(self, node):
        if node.finalbody:
            self.say("L6", node, "finally")

    def look_at_ExceptHandler(self, node):
        named = node.type.elts if isinstance(node.type, ast.Tuple) else [node.type]
        for error in named:
            if not isinstance(error, ast.Name):
                self.say("L6", node, "except without a named error class")
            elif error.id in ERRORS_OF_L8 - {"KeyError", "ZeroDivisionError", "StopIteration"}:
                self.say("L19", node, f"except {error.id}")

    def look_at_Raise(self, node):
        if not isinstance(node.exc, ast.Call) or not isinstance(node.exc.func, ast.Name):
            self.say("L19", node, "raise doesn't make its error on the spot")
        if node.cause is not None and not isinstance(node.cause, ast.Name) and not is_constant(node.cause, None):
            self.say("L19", node, "raise from something else")

    def look_at_Import(self, node):
        if not self.module.is_main or [alias.name for alias in node.names] != ["sys"]:
            self.say("L16", node, "import")

    def look_at_ImportFrom(self, node):
        if node.level or any(alias.name == "*" for alias in node.names):
            self.say("L2", node, "a leading dot or a star")
        if node.module == "__future__" and [alias.name for alias in node.names] != ["annotations"]:
            self.say("L2", node, "from __future__")
        if node.parent is not self.module.tree:
            self.say("L2", node, "an import that isn't at the top")

    def look_at_FunctionDef(self, node):
        if node.end_lineno - node.lineno + 1 > 40:
            self.say("L10", node, "more than 40 lines")
        if node.decorator_list:
            self.say("L4", node, "a decorator")
        if node.returns is not None or getattr(node, "type_params", None):
            self.say("L21", node, "an annotation")
        if node.name in OWN_NAMES_OF_PYTHON and not isinstance(node.parent, ast.ClassDef):
            self.say("L8", node, f"{node.name} is Python's own")
        self.look_at_parameters(node)
        if isinstance(node.parent, ast.ClassDef):
            self.look_at_method(node)

    def look_at_Lambda(self, node):
        self.look_at_parameters(node)
        for other in ast.walk(self.module.tree):
            if (isinstance(other, ast.Lambda) and other is not node and other.lineno == node.lineno
                    and ast.dump(other.args) == ast.dump(node.args)):
                self.say("L13", node, "two lambdas with the same parameters on one line")

    def look_at_parameters(self, node):
        arguments = node.args
        if arguments.vararg or arguments.kwarg or arguments.kwonlyargs or arguments.posonlyargs:
            self.say("L4", node, "no plain parameters")
        for default in arguments.defaults:
            if not is_plain(default, []):
                self.say("L4", node, "a default that is no plain value")
        for argument in arguments.args:
            self.look_at_local(argument, argument.arg)
            if argument.annotation is not None:
                self.say("L21", node, "an annotation")

    def look_at_ClassDef(self, node):
        if node.parent is not self.module.tree:
            self.say("L15", node, "a class that isn't at the top")
        if node.decorator_list or node.keywords or len(node.bases) > 1:
            self.say("L5", node, "no plain class")
        for base in node.bases:
            own = isinstance(base, ast.Name) and base.id in self.classes
            if not own and not (isinstance(base, ast.Name) and base.id in ERRORS_OF_L8):
                self.say("L5", node, "a base that isn't the package's own")
            elif base.id in ("StopIteration", "AttributeError"):
                self.say("L18", node, f"under {base.id}")
        for at, inner in enumerate(node.body):
            if not isinstance(inner, (ast.FunctionDef, ast.Pass)) and not (at == 0 and is_docstring(inner)):
                self.say("L5", inner, "a value in a class body")
        names = [inner.name for inner in node.body if isinstance(inner, ast.FunctionDef)]
        if len(names) != len(set(names)):
            self.say("L18", node, "a method stands twice")

    # methods (L5, L26, L28)

    def look_at_method(self, node):
        name = node.name
        if name.startswith("__"):
            if name not in DUNDER_METHODS:
                self.say("L5", node, f"method {name}")
            self.look_at_dunder(node)
        elif name in NAMES_OF_PYTHONS_VALUES and name not in METHODS_OF_L25 | {"add", "discard"}:
            self.say("L26", node, f"method {name}")

    def look_at_dunder(self, node):
        inner = list(ast.walk(node))
        returned = [part.value for part in inner if isinstance(part, ast.Return)]
        if node.name == "__init__":
            if any(value is not None for value in returned):
                self.say("L28", node, "__init__ gives something back")
            return
        if any(changed_parts(part) or isinstance(part, ast.AugAssign) for part in inner):
            self.say("L28", node, f"{node.name} changes something")
        for value in returned:
            if node.name == "__len__" and not (is_call(value, {"len"}) or is_whole_number(value)):
                self.say("L28", node, "__len__ gives back something else")
            if node.name in ("__repr__", "__str__") and not is_text_result(value):
                self.say("L28", node, f"{node.name} gives back something else")

    # expressions (L7, L13, L20, L24, L27)

    def look_at_expression(self, node):
        if not isinstance(node, EXPRESSIONS):
            self.say("L7", node, type(node).__name__)
        if is_set(node):
            self.look_at_set(node)

    def look_at_set(self, node):
        whole = node
        while isinstance(whole.parent, ast.BinOp):
            whole = whole.parent
        user = whole.parent
        if isinstance(user, ast.Compare):
            fits = beside_in(user, whole) or all(
                is_set_work(part) for part in [user.left] + user.comparators) and is_equality(user)
        else:
            fits = is_call(user, {"sorted", "len"}) and user.args == [whole] and not user.keywords
        if not fits:
            self.say("L24", node, "a set that is kept or walked")
        if isinstance(node, ast.Set):
            if sum(is_whole_number(part) for part in node.elts) >= 3 and not (
                    isinstance(node.parent, ast.Compare) and beside_in(node.parent, node)):
                self.say("L13", node, "a set of three or more whole numbers")
            if enclosing_function(node) is None:
                self.say("L7", node, "a set outside a function")

    def look_at_Constant(self, node):
        if node.value is None or isinstance(node.value, (bool, str, int)):
            if isinstance(node.value, str) and "%" in node.value:
                self.say("L27", node, "the sign for a remainder within a text")
            if isinstance(node.value, int) and abs(node.value) >= 10 ** 900:
                self.say("L27", node, "more than 900 digits")
        else:
            self.say("L7", node, "no value of this program")

    def look_at_operator(self, node):
        if isinstance(node.op, OPERATORS_OUT):
            self.say("L7", node, "an operator")
        if isinstance(node.op, ast.Pow):
            exponent = node.right if isinstance(node, ast.BinOp) else node.value
            if not (is_whole_number(exponent) and 0 <= exponent.value <= 64):
                self.say("L27", node, "an exponent that isn't written")

    def look_at_BinOp(self, node):
        self.look_at_operator(node)

    def look_at_AugAssign(self, node):
        self.look_at_operator(node)

    def look_at_Compare(self, node):
        for at, operator in enumerate(node.ops):
            beside = [node.left, *node.comparators][at:at + 2]
            if isinstance(operator, (ast.Is, ast.IsNot)) and not any(
                    isinstance(part, ast.Constant) and part.value in (None, True, False)
                    and not is_whole_number(part) for part in beside):
                self.say("L20", node, "is")

    def look_at_Dict(self, node):
        if None in node.keys:
            self.say("L7", node, "a star")

    def look_at_ListComp(self, node):
        if len(node.generators) != 1 or len(node.generators[0].ifs) > 1 or node.generators[0].is_async:
            self.say("L7", node, "more than one for or if")

    def look_at_FormattedValue(self, node):
        if not isinstance(node.value, ast.Name) or node.conversion not in (-1, 114) or node.format_spec is not None:
            self.say("L7", node, "no plain name in an f-string")

    def look_at_AnnAssign(self, node):
        self.say("L21", node, "an annotation")

    # calls (L22, L23, L25)

    def look_at_Call(self, node):
        if any(isinstance(argument, ast.Starred) for argument in node.args) or any(
                keyword.arg is None for keyword in node.keywords):
            self.say("L7", node, "a star")
        if isinstance(node.func, ast.Name):
            self.look_at_named_call(node, node.func.id)
        elif isinstance(node.func, ast.Attribute):
            self.look_at_method_call(node, node.func)
        walked = is_call(node, WALKED_CALLS) or (
            isinstance(node.func, ast.Attribute) and node.func.attr in WALKED_METHODS)
        if walked and not is_walked_at_once(node):
            self.say("L23", node, "not walked on the spot")

    def look_at_named_call(self, node, name):
        if name in FUNCTIONS_OF_L8 | ERRORS_OF_L8:
            for keyword in node.keywords:
                if keyword.arg not in KEYWORDS_OF_L22.get(name, ()):
                    self.say("L22", node, f"keyword {keyword.arg}")
                elif keyword.arg in ("reverse", "strict") and not (
                        isinstance(keyword.value, ast.Constant) and keyword.value.value in (True, False)):
                    self.say("L22", node, f"{keyword.arg} without a written True or False")
        if name == "isinstance":
            kinds = node.args[-1].elts if isinstance(node.args[-1], ast.Tuple) else [node.args[-1]]
            fitting = KINDS_FOR_ISINSTANCE | ERRORS_OF_L8 | self.classes
            if len(node.args) != 2 or not all(isinstance(kind, ast.Name) and kind.id in fitting for kind in kinds):
                self.say("L22", node, "isinstance")

    def look_at_method_call(self, node, func):
        base_start = func.attr == "__init__" and isinstance(func.value, ast.Name) and func.value.id in (
            self.classes | ERRORS_OF_L8)
        if func.attr not in METHODS_OF_L25 | self.methods and not base_start:
            self.say("L25", node, f"method {func.attr}")
        if func.attr in METHODS_OF_L25 and node.keywords:
            self.say("L22", node, "a keyword at a method of Python's own")

    # names and values (L8, L12, L15, L17, L18, L25, L26)

    def look_at_identifiers(self, node):
        for field in ("id", "attr", "arg", "name", "asname"):
            name = getattr(node, field, None)
            if not isinstance(name, str) or isinstance(node, ast.alias) and node.name == "*":
                continue
            if not re.fullmatch(r"[A-Za-z][A-Za-z0-9_]*", name) and name not in DUNDER_NAMES:
                self.say("L12", node, f"name {name}")
            if name in NEVER_OF_L17 or FRAMES_OF_L17.match(name):
                self.say("L17", node, f"name {name}")
            if field != "attr" and name in NOT_NAMES_OF_L17 and not (name == "sys" and self.module.is_main):
                self.say("L17", node, f"name {name}")
        if isinstance(node, ast.ExceptHandler) and node.name:
            self.look_at_local(node, node.name)

    def look_at_local(self, node, name):
        if name in OWN_NAMES_OF_PYTHON or name in self.module.classes + self.module.imported:
            self.say("L15", node, f"a local called {name}")

    def look_at_Name(self, node):
        name = node.id
        if name == "__name__" and not self.module.is_main:
            self.say("L17", node, "__name__")
        if not isinstance(node.ctx, ast.Load):
            self.look_at_local(node, name)
            return
        if name in OWN_NAMES_OF_PYTHON and name not in FUNCTIONS_OF_L8 | ERRORS_OF_L8 | {"__name__"}:
            if not (name == "print" and self.module.is_main):
                self.say("L8", node, f"name {name}")
        if name in FUNCTIONS_OF_L8 and not is_called(node) and not is_key(node, KEYS_OF_L22) and not in_isinstance(node):
            self.say("L22", node, f"{name} kept as a value")
        if name in self.classes | ERRORS_OF_L8 and not is_class_use(node):
            self.say("L18", node, f"class {name} handed on")
        if isinstance(self.module.plain.get(name), (ast.List, ast.Dict)) and not is_only_read(node):
            self.say("L15", node, f"{name} of the top isn't only read")

    def look_at_Attribute(self, node):
        name = node.attr
        if name in ("format", "format_map", "mro"):
            self.say("L8", node, f"value {name}")
        if isinstance(node.ctx, ast.Load):
            if not is_called(node) and name not in self.values and not is_key(node, {name}):
                self.say("L25", node, f"{name} handed on")
            return
        if name in NAMES_OF_PYTHONS_VALUES | {"args"} and name not in VALUES_OF_L26:
            self.say("L26", node, f"value {name}")
        holder = node.value
        tops = self.module.own_names() + self.module.imported
        if not isinstance(holder, ast.Name) or holder.id in tops:
            self.say("L18", node, "a value given not through a local name")


# --- what a node is and where it stands

def is_docstring(node):
    return isinstance(node, ast.Expr) and isinstance(node.value, ast.Constant) and isinstance(node.value.value, str)


def is_docstring_in_place(node):
    holder = node.parent
    return (is_docstring(node) and isinstance(holder, (ast.Module, ast.FunctionDef, ast.ClassDef))
            and holder.body[0] is node)


def is_constant(node, value):
    return isinstance(node, ast.Constant) and node.value is value


def is_whole_number(node):
    return isinstance(node, ast.Constant) and isinstance(node.value, int) and not isinstance(node.value, bool)


def is_call(node, names):
    return isinstance(node, ast.Call) and isinstance(node.func, ast.Name) and node.func.id in names


def is_plain(node, functions):
    if isinstance(node, ast.UnaryOp):
        return isinstance(node.op, ast.USub) and is_whole_number(node.operand)
    if isinstance(node, ast.Constant):
        return node.value is None or isinstance(node.value, (bool, int, str))
    if isinstance(node, (ast.List, ast.Tuple)):
        return all(is_plain(part, functions) for part in node.elts)
    if isinstance(node, ast.Dict):
        return all(part is not None and is_plain(part, functions) for part in node.keys + node.values)
    return isinstance(node, ast.Name) and node.id in functions


def is_text_result(node):
    if isinstance(node, ast.JoinedStr) or isinstance(node, ast.Constant) and isinstance(node.value, str):
        return True
    if is_call(node, {"str", "repr"}):
        return True
    return (isinstance(node, ast.Call) and isinstance(node.func, ast.Attribute) and node.func.attr == "join"
            and isinstance(node.func.value, ast.Constant))


def is_set(node):
    return isinstance(node, ast.Set) or is_call(node, {"set", "frozenset"})


def is_set_work(node):
    return is_set(node) or isinstance(node, ast.BinOp) and is_set_work(node.left) and is_set_work(node.right)


def is_equality(node):
    return all(isinstance(operator, (ast.Eq, ast.NotEq)) for operator in node.ops)


def beside_in(compare, node):
    """Whether the node stands right of in or not in."""
    return any(part is node and isinstance(operator, (ast.In, ast.NotIn))
               for part, operator in zip(compare.comparators, compare.ops))


def enclosing_function(node):
    while node is not None and not isinstance(node, (ast.FunctionDef, ast.Lambda)):
        node = node.parent
    return node


def is_called(node):
    return isinstance(node.parent, ast.Call) and node.parent.func is node


def is_key(node, names):
    if not isinstance(node.parent, ast.keyword) or node.parent.arg != "key":
        return False
    return (node.id if isinstance(node, ast.Name) else node.attr) in names


def in_isinstance(node):
    holder = node.parent.parent if isinstance(node.parent, ast.Tuple) else node.parent
    return is_call(holder, {"isinstance"}) and holder.func is not node


def is_class_use(node):
    holder = node.parent.parent if isinstance(node.parent, ast.Tuple) else node.parent
    if isinstance(holder, (ast.ExceptHandler, ast.Raise)) or is_called(node) or in_isinstance(node):
        return True
    if isinstance(holder, ast.ClassDef):
        return node in holder.bases
    return isinstance(holder, ast.Attribute) and holder.attr == "__init__" and is_called(holder)


def is_only_read(node):
    """Whether a list or dict of a file's top stands where it is read and no more."""
    holder = node.parent
    if isinstance(holder, ast.Subscript):
        return holder.value is node and isinstance(holder.ctx, ast.Load)
    if isinstance(holder, (ast.For, ast.comprehension)):
        return holder.iter is node
    if isinstance(holder, ast.Attribute):
        return holder.attr in READING_METHODS and is_called(holder)
    return isinstance(holder, ast.Compare) or is_call(holder, READERS_OF_L15)


def is_walked_at_once(node):
    holder = node.parent
    if isinstance(holder, (ast.For, ast.comprehension)):
        return holder.iter is node
    if not isinstance(holder, ast.Call) or not holder.args or holder.args[0] is not node:
        return False
    if is_call(holder, WALKERS_FIRST):
        return True
    if is_call(holder, {"min", "max"}):
        return len(holder.args) == 1
    return (isinstance(holder.func, ast.Attribute) and holder.func.attr == "join"
            and isinstance(holder.func.value, ast.Constant))


def walked_parts(node):
    """What a loop walks, itself or through enumerate, zip, reversed, items and their like."""
    if is_call(node, {"enumerate", "zip", "reversed"}):
        return [part for argument in node.args for part in walked_parts(argument)]
    if isinstance(node, ast.Call) and isinstance(node.func, ast.Attribute) and node.func.attr in WALKED_METHODS:
        return [node.func.value]
    return [node] if isinstance(node, (ast.Name, ast.Attribute)) else []


def changed_parts(node):
    """The lists or dicts that a node changes: xs[k] = .., xs += .., xs.append(..) and their like."""
    if isinstance(node, ast.Subscript) and isinstance(node.ctx, ast.Store):
        return [node.value]
    if isinstance(node, ast.Attribute) and isinstance(node.ctx, ast.Store):
        return [node]
    if isinstance(node, ast.AugAssign):
        return [node.target]
    if isinstance(node, ast.Call) and isinstance(node.func, ast.Attribute) and node.func.attr in CHANGING_METHODS:
        return [node.func.value]
    return []


def load_form(node):
    """The same node as it stands where it is only read, so that both can be compared."""
    copy = ast.parse(ast.unparse(node), mode="eval").body
    return copy
