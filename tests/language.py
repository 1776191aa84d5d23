"""Finds breaches of LANGUAGE.md in the files of a package, as far as the code shows them by its form.

Where a rule allows more than the program needs, this asks for the narrower form;
widen it here, within the rule, when the program comes to need more.
"""

import ast
import builtins
import io
import keyword
import re
import sys
import tokenize

LIBRARY = {
    "heapq": {"heappush", "heappop", "heapify", "heapreplace", "heappushpop"},
    "math": {"gcd", "lcm", "isqrt", "comb", "perm", "factorial"},
    "itertools": {"product", "combinations", "permutations", "chain", "accumulate", "pairwise", "islice"},
    "collections": {"defaultdict", "deque"},
}
ERRORS = {"Exception", "ValueError", "TypeError", "KeyError", "IndexError", "LookupError", "ZeroDivisionError"}
BUILTINS = ERRORS | set(
    "len range enumerate zip min max sum abs sorted reversed int str bool list tuple dict set isinstance ord repr "
    "any all divmod iter next".split()
)
METHODS = set(
    "append clear copy count endswith extend find get index insert isalnum isalpha isdigit islower isspace isupper "
    "items join keys ljust lower lstrip partition pop remove replace reverse rfind rjust rpartition rsplit rstrip "
    "setdefault split splitlines startswith strip update upper values zfill bit_length popleft appendleft add "
    "discard sort".split()
)
CHANGING = set("append clear extend insert pop remove reverse setdefault update sort add discard popleft".split())
AT_ONCE = {"range", "zip", "enumerate", "reversed", "map"}
VIEWS = {"items", "keys", "values"}
TAKERS = {"list", "tuple", "dict", "sorted", "sum", "any", "all", "min", "max", "enumerate", "zip"}
DUNDERS = {"__init__", "__eq__", "__repr__", "__str__", "__len__", "__call__", "__iter__"}
KEYWORDS = {
    "sorted": {"key", "reverse"},
    "min": {"key", "default"},
    "max": {"key", "default"},
    "sum": {"start"},
    "enumerate": {"start"},
    "zip": {"strict"},
}
BARRED = {"mro", "elements", "open", "input", "law", "version_info", "with_traceback", "add_note", "register"}
BARRED_NAMES = set(
    "attrgetter breakpoint builtins compile copyright credits delattr dir eval exec exit gc getattr globals hasattr "
    "help id importlib license locals methodcaller os quit setattr super type vars sys".split()
)
BARRED_WORDS = (
    "type typing typing_extensions enum Enum IntEnum StrEnum Flag IntFlag Generic Protocol ABC ABCMeta namedtuple "
    "NamedTuple TypedDict TYPE_CHECKING abstractmethod"
).split()
BARRED_ATTRIBUTES = set(
    "items keys values pop update append clear extend insert remove reverse setdefault sort args encode decode hex "
    "fromhex format as_integer_ratio bit_count conjugate from_bytes is_integer to_bytes format_map".split()
)
BARRED_FILES = {"test", "tests", "testing", "site", "conftest", "sitecustomize", "usercustomize"}
STATEMENTS = (
    ast.Assign, ast.AugAssign, ast.If, ast.While, ast.For, ast.Return, ast.Break, ast.Continue, ast.Pass, ast.Raise,
    ast.Assert, ast.Delete, ast.Expr, ast.FunctionDef, ast.Try, ast.Yield,
)
SCOPES = (ast.FunctionDef, ast.Lambda)
COMPREHENSIONS = (ast.ListComp, ast.SetComp, ast.DictComp, ast.GeneratorExp)


def breaches(sources):
    """The sorted list of (file, line, what) for a dict from the path within the package to the text."""
    return sorted(set(Package(sources).found))


class Package:
    def __init__(self, sources):
        self.found = []
        for path in sources:
            check_path(self, path)
        self.sources = {path: text for path, text in sources.items() if path.endswith(".py")}
        self.trees = {path: ast.parse(text) for path, text in self.sources.items()}
        self.defined = {path: top_names(tree) for path, tree in self.trees.items()}
        nodes = [node for tree in self.trees.values() for node in ast.walk(tree)]
        classes = [node for node in nodes if isinstance(node, ast.ClassDef)]
        self.methods = {part.name for node in classes for part in node.body if isinstance(part, ast.FunctionDef)}
        self.attributes = {
            node.attr for node in nodes if isinstance(node, ast.Attribute) and isinstance(node.ctx, ast.Store)
        }
        for path in self.sources:
            File(self, path).check()
        self.check_cycles()
        if len(sources) > 100:
            self.tell("", 0, "L14 more than 100 files")

    def tell(self, path, line, what):
        self.found.append((path, line, what))

    def imports_of(self, path):
        inner = [node for node in self.trees[path].body if isinstance(node, ast.ImportFrom)]
        names = [node.module.split(".")[1] for node in inner if node.module and node.module.startswith("stillends.")]
        return [name + ".py" for name in names]

    def check_cycles(self):
        seen = {}

        def visit(path, above):
            if path in above:
                self.tell(path, 0, "L16 files import from each other")
            elif path not in seen and path in self.trees:
                for other in self.imports_of(path):
                    visit(other, above + [path])
                seen[path] = True

        for path in self.trees:
            visit(path, [])


def check_path(package, path):
    name = path[:-3]
    if not path.endswith(".py") or not re.fullmatch(r"[a-z][a-z0-9_]*|__init__|__main__", name):
        package.tell(path, 0, "L1 the name of a file")
    if name in BARRED_FILES | BARRED | set(dir(builtins)) | {"heapq", "math", "itertools", "collections"}:
        package.tell(path, 0, "L14 the name of a file")
    if name.startswith(("law_", "test_")):
        package.tell(path, 0, "L14 the name of a file")


def top_names(tree):
    names = [node.name for node in tree.body if isinstance(node, (ast.FunctionDef, ast.ClassDef))]
    for node in tree.body:
        if isinstance(node, ast.Assign):
            names.extend(target.id for target in node.targets if isinstance(target, ast.Name))
    return names


def is_docstring(node):
    return isinstance(node, ast.Expr) and isinstance(node.value, ast.Constant) and isinstance(node.value.value, str)


def is_plain(node):
    """Whether a module-level value is plain: constants, tuples, lists and dicts of these and of names."""
    parts = (ast.Constant, ast.Tuple, ast.List, ast.Dict, ast.UnaryOp, ast.USub, ast.Load, ast.Name)
    return all(isinstance(part, parts) for part in ast.walk(node))


def root_name(node):
    """The name at the root of a name, an attribute or an item, None if there is none."""
    while isinstance(node, (ast.Attribute, ast.Subscript)):
        node = node.value
    return node.id if isinstance(node, ast.Name) else None


def called(node):
    """The bare name that a call calls, None if it calls no name."""
    return node.func.id if isinstance(node, ast.Call) and isinstance(node.func, ast.Name) else None


def method_called(node):
    return node.func.attr if isinstance(node, ast.Call) and isinstance(node.func, ast.Attribute) else None


class File:
    def __init__(self, package, path):
        self.package = package
        self.path = path
        self.text = package.sources[path]
        self.tree = package.trees[path]
        self.parents = {
            child: node for node in ast.walk(self.tree) for child in ast.iter_child_nodes(node)
        }
        self.docstrings = {
            node.body[0].value
            for node in ast.walk(self.tree)
            if isinstance(node, (ast.Module, ast.ClassDef, ast.FunctionDef)) and node.body and is_docstring(node.body[0])
        }
        self.imported = [
            alias.name for node in self.tree.body if isinstance(node, ast.ImportFrom) for alias in node.names
        ]
        self.classes = [node.name for node in self.tree.body if isinstance(node, ast.ClassDef)]

    def tell(self, node, what):
        self.package.tell(self.path, node if isinstance(node, int) else getattr(node, "lineno", 0), what)

    def check(self):
        self.check_characters()
        self.check_top()
        self.check_words()
        for node in ast.walk(self.tree):
            for check in CHECKS:
                check(self, node)

    def check_characters(self):
        lines = self.text.split("\n")
        if len(lines) - 1 > 399:
            self.tell(400, "L10 more than 399 lines")
        for k, line in enumerate(lines):
            if len(line) > 120:
                self.tell(k + 1, "L10 more than 120 characters")
            if any(not " " <= sign <= "~" for sign in line):
                self.tell(k + 1, "L14 a character")

    def check_top(self):
        begun = False
        for k, node in enumerate(self.tree.body):
            if isinstance(node, ast.ImportFrom):
                self.check_import(node)
                if begun:
                    self.tell(node, "L2 an import below")
                continue
            if k == 0 and is_docstring(node):
                continue
            begun = True
            if isinstance(node, ast.Import):
                self.tell(node, "L2 the form of an import")
            plain = isinstance(node, ast.Assign) and len(node.targets) == 1 and isinstance(node.targets[0], ast.Name)
            if not isinstance(node, (ast.FunctionDef, ast.ClassDef)) and not (plain and is_plain(node.value)):
                self.tell(node, "L3 at module level")
        names = self.package.defined[self.path] + self.imported
        for name in names:
            if names.count(name) > 1:
                self.tell(0, f"L15 {name} is bound twice")

    def check_import(self, node):
        names = [alias.name for alias in node.names]
        if node.level or any(alias.asname for alias in node.names):
            self.tell(node, "L2 the form of an import")
        elif node.module in LIBRARY:
            if not set(names) <= LIBRARY[node.module]:
                self.tell(node, "L2 from the library")
        elif not set(names) <= set(self.package.defined.get(node.module.replace("stillends.", "", 1) + ".py", [])):
            self.tell(node, "L16 an import of what the file does not define")

    def check_words(self):
        for token in tokenize.generate_tokens(io.StringIO(self.text).readline):
            if token.type == tokenize.NAME and token.string in BARRED_WORDS:
                self.tell(token.start[0], f"L17 the word {token.string}")
            if token.type == tokenize.STRING and re.search(r"\\[^nt\\'\"]", token.string):
                self.tell(token.start[0], "L27 an escape")
        if re.search("dataclass|overload|contextmanager|_wall|_WallAttr", self.text):
            self.tell(0, "L12, L17 a word")

    def scope_of(self, node):
        node = self.parents.get(node)
        while node is not None and not isinstance(node, ast.FunctionDef):
            node = self.parents.get(node)
        return node

    def is_iterated(self, node):
        """Whether what stands there is iterated at once."""
        above = self.parents[node]
        if isinstance(above, (ast.For, ast.comprehension)):
            return above.iter is node
        return called(above) in TAKERS and above.args[:1] == [node]


def check_node_kind(file, node):
    if isinstance(node, ast.stmt) and file.scope_of(node) is not None and not isinstance(node, STATEMENTS):
        file.tell(node, "L6 a statement")
    barred = (ast.JoinedStr, ast.NamedExpr, ast.Await, ast.Starred, ast.Set, ast.YieldFrom, ast.AnnAssign, ast.MatMult)
    if isinstance(node, barred + (ast.Div,)):
        file.tell(node, f"L7 {node.__class__.__name__}")
    if isinstance(node, ast.Constant) and isinstance(node.value, (float, complex, bytes)):
        file.tell(node, "L7 a constant")
    if isinstance(node, ast.Constant) and isinstance(node.value, str) and node not in file.docstrings:
        if "%" in node.value or node.value.endswith(("._", ".__")) or re.fullmatch("__.*__", node.value):
            file.tell(node, "L27 a string")
    if isinstance(node, (ast.Is, ast.IsNot)):
        above = file.parents[node]
        constants = [part for part in above.comparators if isinstance(part, ast.Constant)]
        if not constants or constants[0].value not in (None, True, False):
            file.tell(above, "L20 is")
    if isinstance(node, ast.BinOp) and isinstance(node.op, ast.Pow):
        if not isinstance(node.right, ast.Constant) or not 0 <= node.right.value <= 64:
            file.tell(node, "L27 an exponent")


def check_function(file, node):
    if isinstance(node, (ast.FunctionDef, ast.ClassDef)) and node.decorator_list:
        file.tell(node, "L4 a decorator")
    if not isinstance(node, ast.FunctionDef):
        return
    if node.end_lineno - node.lineno + 1 > 40:
        file.tell(node, "L10 more than 40 lines")
    args = node.args
    if args.vararg or args.kwarg or args.kwonlyargs or args.posonlyargs or node.returns:
        file.tell(node, "L4 parameters")
    if any(not is_plain(default) for default in args.defaults):
        file.tell(node, "L4 a default value")
    if any(arg.annotation for arg in args.args):
        file.tell(node, "L21 an annotation")
    if node.name.startswith("__"):
        if node.name not in DUNDERS or not isinstance(file.parents[node], ast.ClassDef):
            file.tell(node, "L5 a double-underscore method")
    if node.name == "__init__":
        if any(isinstance(part, ast.Return) for part in ast.walk(node)):
            file.tell(node, "L28 __init__ returns")
    if isinstance(file.parents[node], ast.ClassDef) and node.name in METHODS & BARRED_ATTRIBUTES:
        file.tell(node, "L26 the name of a method")


def check_class(file, node):
    if not isinstance(node, ast.ClassDef):
        return
    if not isinstance(file.parents[node], ast.Module) or node.keywords or len(node.bases) > 1:
        file.tell(node, "L5, L15 a class")
    if node.name.startswith("_"):
        file.tell(node, "L12 the name of a class")
    names = [part.name for part in node.body if isinstance(part, ast.FunctionDef)]
    if len(names) != len(set(names)):
        file.tell(node, "L18 a method twice")
    for part in node.body:
        if not isinstance(part, ast.FunctionDef) and not is_docstring(part):
            file.tell(part, "L5 in a class")


def bound_name(node):
    if isinstance(node, (ast.FunctionDef, ast.ClassDef)):
        return node.name
    if isinstance(node, ast.arg):
        return node.arg
    if isinstance(node, ast.Name) and isinstance(node.ctx, ast.Store):
        return node.id
    return node.name if isinstance(node, ast.ExceptHandler) else None


def check_names(file, node):
    name = bound_name(node)
    if name is not None and not (name in DUNDERS and isinstance(node, ast.FunctionDef)):
        is_method = isinstance(node, ast.FunctionDef) and isinstance(file.parents[node], ast.ClassDef)
        if not re.fullmatch("_|_?[A-Za-z][A-Za-z0-9_]*", name) or keyword.issoftkeyword(name) and name != "_":
            file.tell(node, f"L12 the name {name}")
        if hasattr(builtins, name) and not is_method:
            file.tell(node, f"L15 the name of a builtin, {name}")
        if name in BARRED | BARRED_NAMES:
            file.tell(node, f"L17 the name {name}")
        if file.scope_of(node) is not None and not is_method and name in file.imported + file.classes:
            file.tell(node, f"L15 {name} is a class or an import")
        if name.startswith(("_pe_", "_dcw_", "_enum_", "_cm_", "_twin_re_", "_lay_", "_law_", "_stub_", "_sre")):
            file.tell(node, f"L12 the name {name}")
    if isinstance(node, ast.Name) and isinstance(node.ctx, ast.Load):
        if node.id == "_":
            file.tell(node, "L12 _ is read")
        if hasattr(builtins, node.id) and node.id not in BUILTINS:
            file.tell(node, f"L8 the builtin {node.id}")


def check_attributes(file, node):
    if not isinstance(node, ast.Attribute):
        return
    if node.attr in BARRED or node.attr.startswith("__") and node.attr != "__init__":
        file.tell(node, f"L8, L17 the attribute {node.attr}")
    above = file.parents[node]
    is_call = isinstance(above, ast.Call) and above.func is node
    if is_call and node.attr not in METHODS | file.package.methods | file.package.attributes:
        file.tell(node, f"L25 the method {node.attr}")
    if not is_call and node.attr not in file.package.attributes:
        file.tell(node, f"L18 the attribute {node.attr} is assigned nowhere")
    if isinstance(node.ctx, ast.Store):
        if node.attr in BARRED_ATTRIBUTES:
            file.tell(node, f"L26 the attribute {node.attr}")
        if not isinstance(node.value, ast.Name) or node.value.id in file.package.defined[file.path] + file.imported:
            file.tell(node, "L18 where an attribute is assigned")


def check_builtin_call(file, node):
    name = called(node)
    if name in BUILTINS and name not in ERRORS:
        if not {part.arg for part in node.keywords} <= KEYWORDS.get(name, set()):
            file.tell(node, "L22 a keyword of a builtin")
    if method_called(node) in METHODS - file.package.methods and node.keywords and method_called(node) != "sort":
        file.tell(node, "L25 a keyword of a method")
    if name in AT_ONCE or method_called(node) in VIEWS:
        above = file.parents[node]
        measured = name == "range" and (called(above) == "len" or isinstance(above, ast.Compare))
        if not file.is_iterated(node) and not measured and not (name == "range" and called(above) == "reversed"):
            file.tell(node, "L23 is not iterated at once")
    if isinstance(node, ast.GeneratorExp):
        if called(file.parents[node]) not in TAKERS or len(file.parents[node].args) != 1:
            file.tell(node, "L7 a generator expression")
    if isinstance(node, ast.Name) and node.id in BUILTINS and isinstance(node.ctx, ast.Load):
        above = file.parents[node]
        is_key = isinstance(above, ast.keyword) and above.arg == "key"
        checked = called(above) == "isinstance" or isinstance(above, ast.Tuple)
        based = isinstance(above, (ast.ClassDef, ast.Raise, ast.ExceptHandler))
        if not (isinstance(above, ast.Call) and above.func is node) and not is_key and not checked and not based:
            file.tell(node, f"L22 {node.id} is a value")


def check_sets(file, node):
    if not (isinstance(node, ast.SetComp) or called(node) == "set"):
        return
    above = file.parents[node]
    beside = isinstance(above, (ast.Compare, ast.BinOp)) or called(above) in ("sorted", "len")
    if beside:
        return
    scope = file.scope_of(node)
    if not isinstance(above, ast.Assign) or len(above.targets) > 1 or not isinstance(above.targets[0], ast.Name):
        file.tell(node, "L24 where a set stands")
        return
    name = above.targets[0].id
    uses = [part for part in ast.walk(scope) if isinstance(part, ast.Name) and part.id == name]
    if sum(isinstance(part.ctx, ast.Store) for part in uses) > 1:
        file.tell(node, "L24 a set is assigned again")
    for part in uses:
        if isinstance(part.ctx, ast.Load) and not is_use_of_set(file, part):
            file.tell(part, "L24 the use of a set")


def is_use_of_set(file, node):
    above = file.parents[node]
    if isinstance(above, ast.Attribute):
        return above.attr in ("add", "discard") and isinstance(file.parents[file.parents[above]], ast.Expr)
    if isinstance(above, ast.Compare):
        return above.comparators == [node] and isinstance(above.ops[0], (ast.In, ast.NotIn))
    return called(above) in ("sorted", "len") or isinstance(above, (ast.If, ast.While)) and above.test is node


def check_loops(file, node):
    """What a loop goes over, by any of its names, is not modified in the loop."""
    if not isinstance(node, ast.For):
        return
    names = {part.id for part in ast.walk(node.iter) if isinstance(part, ast.Name)}
    calls = {called(part) for part in ast.walk(node.iter) if isinstance(part, ast.Call)}
    if calls & {"list", "sorted", "tuple", "range"}:
        return
    for part in [inner for statement in node.body for inner in ast.walk(statement)]:
        changed = None
        if method_called(part) in CHANGING:
            changed = root_name(part.func.value)
        if isinstance(part, (ast.Subscript, ast.Attribute)) and isinstance(part.ctx, (ast.Store, ast.Del)):
            changed = root_name(part)
        if changed in names:
            file.tell(part, f"L23 {changed} is modified in its loop")


def check_errors(file, node):
    if isinstance(node, ast.Raise) and node.exc is not None:
        if called(node.exc) is None or not called(node.exc)[0].isupper():
            file.tell(node, "L19 what is raised")
    if isinstance(node, ast.ExceptHandler):
        named = node.type.elts if isinstance(node.type, ast.Tuple) else [node.type]
        own = [part for part in named if isinstance(part, ast.Name) and part.id in file.imported + file.classes]
        free = [part for part in named if isinstance(part, ast.Name) and part.id in ("KeyError", "ZeroDivisionError")]
        if len(own) + len(free) < len(named):
            file.tell(node, "L19 what is caught")
    if isinstance(node, ast.Try) and node.finalbody:
        file.tell(node, "L6 finally")


def check_lambdas(file, node):
    if not isinstance(node, ast.stmt) or isinstance(node, (ast.FunctionDef, ast.ClassDef)):
        return
    lines = [part.lineno for part in ast.walk(node) if isinstance(part, ast.Lambda)]
    if len(lines) != len(set(lines)):
        file.tell(node, "L13 two lambdas on a line")
    for part in ast.walk(node):
        if isinstance(part, COMPREHENSIONS) and file.scope_of(part) is None:
            file.tell(part, "L7 a comprehension at module level")


CHECKS = (
    check_node_kind, check_function, check_class, check_names, check_attributes, check_builtin_call, check_sets,
    check_loops, check_errors, check_lambdas,
)


def package_sources(folder):
    """The texts of all files of a package's folder, by their paths within it."""
    sources = {}
    for path in sorted(folder.rglob("*")):
        if path.is_file() and "__pycache__" not in path.parts:
            sources[str(path.relative_to(folder))] = path.read_text(encoding="utf-8")
    return sources


if __name__ == "__main__":
    from pathlib import Path

    told = breaches(package_sources(Path(__file__).resolve().parent.parent / "stillends"))
    for row in told:
        print(*row)
    sys.exit(1 if told else 0)
