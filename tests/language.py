"""What a script can see of ../shared/LANGUAGE.md, narrowed to what the program needs.

Whatever is not let in here is reported, also where the rules would allow it
under conditions (match, with, try, generators, sets, lambdas, operators ..). If
the program comes to need such a thing, add it here with its conditions.

A fault is a text such as "L10 books.py:7: why".
"""

import ast
import builtins
import io
import re
import sys
import tokenize
import warnings

PACKAGE = "roundstairs"

NODES = (
    ast.Module, ast.ImportFrom, ast.alias, ast.FunctionDef, ast.ClassDef, ast.arguments, ast.arg, ast.Return,
    ast.Assign, ast.AugAssign, ast.For, ast.While, ast.If, ast.Raise, ast.Expr, ast.Pass, ast.Break, ast.Continue,
    ast.BoolOp, ast.And, ast.Or, ast.BinOp, ast.Add, ast.Sub, ast.Mult, ast.FloorDiv, ast.Mod, ast.UnaryOp, ast.Not,
    ast.USub, ast.IfExp, ast.ListComp, ast.DictComp, ast.GeneratorExp, ast.comprehension, ast.Compare, ast.Eq,
    ast.NotEq, ast.Lt, ast.LtE, ast.Gt, ast.GtE, ast.Is, ast.IsNot, ast.In, ast.NotIn, ast.Call, ast.keyword,
    ast.Constant, ast.Attribute, ast.Subscript, ast.Slice, ast.Name, ast.Load, ast.Store, ast.List, ast.Tuple,
    ast.Dict, ast.Starred)

CALLED = ("len", "range", "enumerate", "zip", "min", "max", "sum", "abs", "sorted", "reversed", "int", "str", "bool",
          "list", "tuple", "dict", "isinstance", "any", "all", "divmod")
ASKED = ("int", "str", "bool", "list", "tuple", "dict")
ERRORS = ("Exception", "ValueError", "TypeError", "KeyError", "IndexError", "LookupError", "ZeroDivisionError",
          "ArithmeticError", "OverflowError", "RuntimeError", "NotImplementedError")
KEYWORDS = {"sorted": ("key", "reverse"), "min": ("key", "default"), "max": ("key", "default"), "sum": ("start",),
            "enumerate": ("start",), "zip": ("strict",)}
METHODS = ("append", "clear", "copy", "count", "extend", "get", "index", "insert", "items", "keys", "values", "pop",
           "remove", "reverse", "setdefault", "update", "join")
TAKERS = ("list", "tuple", "dict", "sorted", "sum", "any", "all", "enumerate", "zip", "min", "max")
EATERS = ("list", "tuple", "dict", "sorted", "sum", "min", "max", "any", "all")
CHANGERS = ("append", "clear", "extend", "insert", "pop", "remove", "reverse", "setdefault", "update")

# L2: what is let in of the library; it is only called, by its bare name and by position.
LIBRARY = {"math": ("gcd",)}

# L17: not in any file but in comments and docstrings.
WORDS = ("type", "typing", "typing_extensions", "enum", "Enum", "IntEnum", "StrEnum", "Flag", "IntFlag", "Generic",
         "Protocol", "ABC", "ABCMeta", "namedtuple", "NamedTuple", "TypedDict", "TYPE_CHECKING", "abstractmethod")
PARTS = ("dataclass", "overload", "contextmanager")
# L17 and L26: no names.
UNUSED = ("register", "mro", "elements", "open", "input", "law", "version_info", "with_traceback", "add_note",
          "attrgetter", "importlib", "methodcaller", "gc", "os", "sys", "args", "as_integer_ratio", "bit_count",
          "conjugate", "from_bytes", "is_integer", "to_bytes", "format", "format_map")
UNUSED_STARTS = ("_wall", "_WallAttr", "_pe_", "_dcw_", "_enum_", "_cm_", "_twin_re_", "_lay_", "_law_", "_stub_",
                 "_sre", "f_", "tb_", "co_", "gi_", "cr_", "ag_")
FILES = ("site", "conftest", "sitecustomize", "usercustomize", "test", "tests", "testing", "heapq", "math", "itertools")


def faults(files):
    """The faults of a package, given as a dict of the texts of its files by their names."""
    found = []
    trees = {}
    for name in sorted(files):
        found.extend(text_faults(name, files[name]))
        tree, why = parsed(name, files[name])
        found.extend(why)
        if tree is not None:
            trees[name] = tree
            found.extend(token_faults(name, files[name], docstring_lines(tree)))
    if "__init__.py" not in files:
        found.append("L14 __init__.py:1: each folder has one")
    found.extend(import_faults(trees))
    own = own_classes(trees)
    for name, tree in trees.items():
        found.extend(FileCheck(name, tree, own).run())
    return sorted(found)


def parsed(name, text):
    with warnings.catch_warnings():
        warnings.simplefilter("error")
        try:
            return ast.parse(text, name), []
        except (SyntaxError, SyntaxWarning, DeprecationWarning) as error:
            return None, [f"L27 {name}:{getattr(error, 'lineno', 1)}: {error}"]


def text_faults(name, text):
    found = []
    stem = name.removesuffix(".py")
    if stem != "__init__" and (not re.fullmatch(r"[a-z][a-z0-9_]*\.py", name) or stem in dir(builtins)
                               or stem in FILES + WORDS or stem.startswith(("law_", "test_"))):
        found.append(f"L14 {name}:1: the file's name")
    if PACKAGE in sys.stdlib_module_names:
        found.append(f"L14 {name}:1: the package's name")
    lines = text.split("\n")
    if len(lines) - 1 > 399:
        found.append(f"L10 {name}:399: the file is too long")
    for at, line in enumerate(lines, 1):
        if len(line) > 120:
            found.append(f"L10 {name}:{at}: the line is too long")
        if "\t" in line:
            found.append(f"L10 {name}:{at}: a tab")
        if re.search(r"[^ -~\t]", line):
            found.append(f"L14 {name}:{at}: a character that is not from the space to ~")
        if re.search(r"_wall\b|_WallAttr", line):
            found.append(f"L12 {name}:{at}: a word that stands nowhere")
    return found


def token_faults(name, text, docstrings):
    found = []
    for token in tokenize.generate_tokens(io.StringIO(text).readline):
        at = token.start[0]
        if token.type == tokenize.STRING:
            if re.search(r"\\[^nt\\'\"]", token.string):
                found.append(f"L27 {name}:{at}: an escape")
            if not token.string.startswith(("'", '"')):
                found.append(f"L27 {name}:{at}: a string with a prefix")
            if at in docstrings:
                continue
            if "%" in token.string:
                found.append(f"L27 {name}:{at}: a percent sign in a string")
        if token.type in (tokenize.STRING, tokenize.NAME):
            words = re.findall(r"\w+", token.string)
            if any(word in WORDS or any(part in word for part in PARTS) for word in words):
                found.append(f"L17 {name}:{at}: a word that is barred")
    return found


def docstring_lines(tree):
    return [node.body[0].lineno for node in ast.walk(tree)
            if isinstance(node, (ast.Module, ast.ClassDef, ast.FunctionDef)) and has_docstring(node)]


def has_docstring(node):
    return bool(node.body) and is_text(node.body[0])


def is_text(node):
    return isinstance(node, ast.Expr) and isinstance(node.value, ast.Constant) and isinstance(node.value.value, str)


def module_names(tree):
    """The names that a file binds at module level, imports included, as often as it binds them."""
    found = []
    for node in tree.body:
        if isinstance(node, ast.ImportFrom):
            found.extend(alias.asname or alias.name for alias in node.names)
        elif isinstance(node, (ast.FunctionDef, ast.ClassDef)):
            found.append(node.name)
        elif isinstance(node, ast.Assign):
            found.extend(target.id for target in node.targets if isinstance(target, ast.Name))
    return found


def imported_names(tree):
    return [alias.name for node in tree.body if isinstance(node, ast.ImportFrom) for alias in node.names]


def library_names(tree):
    """The names that a file imports from the library."""
    return [alias.name for node in tree.body if isinstance(node, ast.ImportFrom) and node.module in LIBRARY
            for alias in node.names]


def own_classes(trees):
    return [node.name for tree in trees.values() for node in tree.body if isinstance(node, ast.ClassDef)]


def import_faults(trees):
    found = []
    reached = {}
    for name, tree in trees.items():
        reached[name] = []
        for node in tree.body:
            if isinstance(node, ast.ImportFrom) and node.level == 0 and node.module in LIBRARY:
                for alias in node.names:
                    if alias.name not in LIBRARY[node.module] or alias.asname:
                        found.append(f"L2 {name}:{node.lineno}: {alias.name} is not let in from {node.module}")
            elif isinstance(node, ast.ImportFrom):
                source = (node.module or "").removeprefix(PACKAGE + ".") + ".py"
                reached[name].append(source)
                defined = module_names(trees[source]) if source in trees else []
                imported = imported_names(trees[source]) if source in trees else []
                for alias in node.names:
                    if node.level != 0 or alias.name not in defined or alias.name in imported or alias.asname:
                        found.append(f"L16 {name}:{node.lineno}: {alias.name} is not imported from its own file")
    for name in trees:
        if name in all_reached(reached, name):
            found.append(f"L16 {name}:1: files import from each other")
    return found


def all_reached(reached, name):
    found = []
    queue = list(reached[name])
    while queue:
        other = queue.pop()
        if other not in found:
            found.append(other)
            queue.extend(reached.get(other, []))
    return found


class FileCheck:
    """The faults of one file that its tree shows."""

    def __init__(self, name, tree, classes):
        self.name = name
        self.tree = tree
        self.classes = classes
        self.bound = module_names(tree)
        self.imported = imported_names(tree)
        self.library = library_names(tree)
        self.parents = {child: node for node in ast.walk(tree) for child in ast.iter_child_nodes(node)}
        self.found = []

    def fault(self, rule, node, why):
        self.found.append(f"{rule} {self.name}:{getattr(node, 'lineno', 1)}: {why}")

    def run(self):
        for node in ast.walk(self.tree):
            if not isinstance(node, NODES):
                self.fault("L6", node, f"{type(node).__name__} is not among what is let in")
            look = getattr(self, "see_" + type(node).__name__.lower(), None)
            if look is not None:
                look(node)
        self.see_module_level()
        return self.found

    def see_module_level(self):
        if len(set(self.bound)) < len(self.bound):
            self.fault("L15", self.tree, "a name is bound twice at module level")
        late = False
        for at, node in enumerate(self.tree.body):
            if isinstance(node, ast.ImportFrom):
                if late:
                    self.fault("L2", node, "an import that is not at the top")
            elif isinstance(node, ast.Assign):
                self.see_value(node)
            elif not isinstance(node, (ast.FunctionDef, ast.ClassDef)) and not (at == 0 and is_text(node)):
                self.fault("L3", node, "a statement at module level")
            late = late or not isinstance(node, ast.ImportFrom) and not (at == 0 and is_text(node))

    def see_value(self, node):
        if len(node.targets) != 1 or not isinstance(node.targets[0], ast.Name):
            self.fault("L3", node, "more than one name at once")
        if not is_literal(node.value):
            self.fault("L3", node, "no plain value at module level")

    def see_importfrom(self, node):
        if not isinstance(self.parents[node], ast.Module):
            self.fault("L2", node, "an import in a function")

    def see_functiondef(self, node):
        self.check_name(node, node.name)
        if node.end_lineno - node.lineno + 1 > 40:
            self.fault("L10", node, "the function is too long")
        if node.decorator_list:
            self.fault("L4", node, "a decorator")
        parent = self.parents[node]
        if not isinstance(parent, (ast.Module, ast.ClassDef)):
            self.fault("L4", node, "a nested function is not let in")
        told = node.args
        if told.vararg or told.kwarg or told.kwonlyargs or told.posonlyargs:
            self.fault("L4", node, "parameters that are not plain")
        if not all(is_literal(value) for value in told.defaults):
            self.fault("L4", node, "a default value that is not plain")
        if node.returns or any(arg.annotation for arg in told.args):
            self.fault("L21", node, "annotations are not let in")
        if node.name.startswith("__") != (node.name == "__init__" and isinstance(parent, ast.ClassDef)):
            self.fault("L5", node, "a double-underscore method")
        if node.name == "__init__" and any(isinstance(part, ast.Return) for part in ast.walk(node)):
            self.fault("L28", node, "__init__ returns nothing")
        self.see_locals(node)

    def see_locals(self, node):
        """Each name that a function reads is its own, the file's, or a builtin that is let in."""
        names = [arg.arg for arg in node.args.args]
        names += [part.id for part in ast.walk(node) if isinstance(part, ast.Name) and isinstance(part.ctx, ast.Store)]
        for name in names:
            if name in self.imported or name in self.classes:
                self.fault("L15", node, f"{name} is a class or an import")
        for part in ast.walk(node):
            if isinstance(part, ast.Name) and isinstance(part.ctx, ast.Load):
                self.see_read(part, names)

    def see_read(self, node, names):
        if node.id == "_":
            self.fault("L12", node, "_ is read")
        if node.id not in names and node.id not in self.bound + list(CALLED + ERRORS):
            self.fault("L8", node, f"{node.id} is not among the names that are let in")
        if node.id in self.library and not self.is_called(node):
            self.fault("L2", node, f"{node.id} of the library as a value")
        parent = self.parents[node]
        if node.id in CALLED and node.id not in names and not self.is_called(node):
            asked = parent if isinstance(parent, ast.Call) else self.parents[parent]
            if node.id not in ASKED or not is_call_of(asked, ("isinstance",)):
                self.fault("L22", node, f"{node.id} as a value")
        if node.id in self.classes and not self.is_called(node):
            if not is_call_of(parent, ("isinstance",)):
                self.fault("L18", node, f"the class {node.id} as a value")

    def is_called(self, node):
        parent = self.parents[node]
        return isinstance(parent, ast.Call) and parent.func is node

    def see_classdef(self, node):
        self.check_name(node, node.name)
        if node.decorator_list or node.keywords:
            self.fault("L5", node, "a decorator over a class")
        if not isinstance(self.parents[node], ast.Module):
            self.fault("L15", node, "a class that is not at module level")
        above = [other.name for other in self.tree.body
                 if isinstance(other, ast.ClassDef) and other.lineno < node.lineno]
        for base in node.bases:
            if not isinstance(base, ast.Name) or base.id not in above + self.imported + list(ERRORS):
                self.fault("L5", node, "a base class that is not defined above")
        for at, part in enumerate(node.body):
            if not isinstance(part, ast.FunctionDef) and not (at == 0 and is_text(part)):
                self.fault("L5", part, "the body of a class")

    def check_name(self, node, name):
        if not re.fullmatch(r"_?[A-Za-z][A-Za-z0-9_]*|__init__|_", name):
            self.fault("L12", node, f"the name {name}")
        if name in UNUSED or name.startswith(UNUSED_STARTS):
            self.fault("L17", node, f"the name {name}")
        if name != "_" and name in dir(builtins):
            self.fault("L15", node, f"{name} is the name of a builtin")

    def see_name(self, node):
        if isinstance(node.ctx, ast.Store):
            self.check_name(node, node.id)

    def see_arg(self, node):
        self.check_name(node, node.arg)
        if node.arg == "_" and isinstance(self.parents[self.parents[self.parents[node]]], ast.ClassDef):
            self.fault("L12", node, "_ as a method's parameter")

    def see_attribute(self, node):
        if not re.fullmatch(r"_?[a-z][a-z0-9_]*|__init__", node.attr) or node.attr in UNUSED:
            self.fault("L12", node, f"the attribute {node.attr}")
        if self.is_called(node):
            if node.attr not in METHODS and not (node.attr == "__init__" and isinstance(node.value, ast.Name)):
                self.fault("L25", node, f"the method {node.attr}")
        elif isinstance(node.ctx, ast.Load) and node.attr in METHODS:
            self.fault("L25", node, "a method that is not called")
        if isinstance(node.value, ast.Constant) and node.attr != "join":
            self.fault("L25", node, "a method of a literal")

    def see_constant(self, node):
        if node.value is not None and type(node.value) not in (bool, int, str):
            self.fault("L7", node, "a value that is not let in")
        if type(node.value) is str and (node.value.endswith(("._", ".__")) or node.value.startswith("__")):
            self.fault("L27", node, "a string that is not let in")
        if type(node.value) is int and len(str(node.value)) > 900:
            self.fault("L27", node, "a number that is too long")

    def see_expr(self, node):
        if not is_text(node) and not isinstance(node.value, ast.Call):
            self.fault("L6", node, "a statement that does nothing")
        if is_text(node) and self.parents[node].body[0] is not node:
            self.fault("L6", node, "a string that is no docstring")

    def see_raise(self, node):
        made = node.exc.func if isinstance(node.exc, ast.Call) else None
        if not isinstance(made, ast.Name) or made.id not in self.classes + list(ERRORS) or node.cause is not None:
            self.fault("L19", node, "raise creates its error on the spot")

    def see_compare(self, node):
        if any(isinstance(sign, (ast.Is, ast.IsNot)) for sign in node.ops):
            sides = [node.left, *node.comparators]
            if not any(isinstance(side, ast.Constant) and side.value in (None, True, False) for side in sides):
                self.fault("L20", node, "is beside no None, True or False")

    def see_call(self, node):
        if not isinstance(node.func, (ast.Name, ast.Attribute)):
            self.fault("L7", node, "a call of no name")
            return
        name = node.func.id if isinstance(node.func, ast.Name) else node.func.attr
        own = name in self.bound
        if any(isinstance(part, ast.Starred) for part in node.args) or any(part.arg is None for part in node.keywords):
            self.fault("L7", node, "a star in a call is not let in")
        if not own and any(part.arg not in KEYWORDS.get(name, ()) for part in node.keywords):
            self.fault("L22", node, f"a keyword of {name}")
        if name in self.library and node.keywords:
            self.fault("L2", node, f"a keyword of {name} of the library")
        if any(part.arg in ("open", "input", "self") for part in node.keywords):
            self.fault("L22", node, "the name of a keyword")
        if name in ("zip", "enumerate", "reversed", "range", "items", "keys", "values") and not own:
            self.see_iterated(node, name)
        if isinstance(node.func, ast.Attribute) and name in CHANGERS:
            self.see_changed(node, node.func.value)

    def see_iterated(self, node, name):
        """zip, range and the like are iterated on the spot."""
        parent = self.parents[node]
        if isinstance(parent, (ast.For, ast.comprehension)) and parent.iter is node:
            return
        if is_call_of(parent, TAKERS) and parent.args[0] is node:
            return
        if name == "range" and is_call_of(parent, ("len", "reversed")):
            return
        self.fault("L23", node, f"{name} is not iterated on the spot")

    def see_changed(self, node, changed):
        """What a loop iterates over is not modified in it."""
        text = ast.unparse(changed)
        above = node
        while above in self.parents:
            below, above = above, self.parents[above]
            if isinstance(above, ast.For) and below in above.body and text in iterated_texts(above.iter):
                self.fault("L23", node, f"{text} is modified in its own loop")

    def see_assign(self, node):
        self.see_targets(node, node.targets)

    def see_augassign(self, node):
        self.see_targets(node, [node.target])
        if isinstance(node.target, ast.Subscript) and isinstance(node.target.slice, ast.Slice):
            self.fault("L6", node, "+= on a slice")

    def see_targets(self, node, targets):
        for target in targets:
            if isinstance(target, ast.Subscript):
                self.see_changed(node, target.value)
                if isinstance(target.value, ast.Name) and target.value.id in self.bound:
                    self.fault("L15", node, "a value of the module is modified")
            if isinstance(target, ast.Attribute) and not isinstance(target.value, ast.Name):
                self.fault("L18", node, "an attribute that is not assigned through a name")
            if isinstance(target, ast.List):
                self.fault("L6", node, "targets in brackets")
            if isinstance(target, ast.Tuple):
                self.see_targets(node, target.elts)

    def see_generatorexp(self, node):
        parent = self.parents[node]
        joins = isinstance(parent, ast.Call) and isinstance(parent.func, ast.Attribute) and parent.func.attr == "join"
        if not joins and not is_call_of(parent, EATERS):
            self.fault("L7", node, "a generator expression that is not eaten on the spot")
        elif any(is_call_of(part, ("zip", "enumerate", "reversed")) for part in ast.walk(node)):
            self.fault("L23", node, "take a list comprehension over zip and the like")

    def see_starred(self, node):
        parent = self.parents[node]
        if not isinstance(parent, (ast.List, ast.Tuple)):
            self.fault("L7", node, "a star that is not let in")


def iterated_texts(node):
    """The texts of what a loop iterates over, also within enumerate, zip and the like."""
    found = [ast.unparse(node)]
    if is_call_of(node, ("enumerate", "zip", "reversed")):
        for part in node.args:
            found.extend(iterated_texts(part))
    if isinstance(node, ast.Call) and isinstance(node.func, ast.Attribute):
        found.append(ast.unparse(node.func.value))
    return found


def is_call_of(node, names):
    return isinstance(node, ast.Call) and isinstance(node.func, ast.Name) and node.func.id in names


def is_literal(node):
    if isinstance(node, ast.UnaryOp) and isinstance(node.op, ast.USub):
        return isinstance(node.operand, ast.Constant) and type(node.operand.value) is int
    if isinstance(node, ast.Tuple):
        return all(is_literal(part) for part in node.elts)
    return isinstance(node, ast.Constant)
