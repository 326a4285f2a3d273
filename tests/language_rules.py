"""The rules of the program's language that a script can see, by their numbers.

It is stricter than the rules where the program needs less: no sets, no annotations, no
loops over several names at once, and a call is the only expression that stands by itself.
"""

import ast
import builtins
import re

PACKAGE = "discimages"
OWN_NAMES = set("""len range enumerate zip min max sum abs sorted reversed int str bool list tuple dict set frozenset
isinstance ord repr any all divmod Exception ValueError TypeError KeyError IndexError LookupError ZeroDivisionError
ArithmeticError OverflowError RuntimeError NotImplementedError AttributeError StopIteration""".split())
METHODS = set("""append clear copy count endswith extend find get index insert isalnum isalpha isdigit islower isspace
isupper items join keys ljust lower lstrip partition pop remove replace reverse rfind rjust rpartition rsplit rstrip
setdefault split splitlines startswith strip update upper values zfill bit_length""".split())
FREE_VALUES = set("count index title find get join lower upper split strip copy add".split())
VALUES_OF_PYTHON = {name for kind in (str, int, list, dict, set, bytes, tuple) for name in dir(kind)} | {"args"}
UNUSED_NAMES = set("""register mro elements open input version_info with_traceback add_note format format_map attrgetter
breakpoint builtins compile copyright credits delattr dir eval exec exit gc getattr globals hasattr help id importlib
license locals methodcaller os quit setattr super type vars sys chr print""".split())
UNUSED_WORDS = set("""type typing typing_extensions enum Enum IntEnum StrEnum Flag IntFlag Generic Protocol ABC ABCMeta
namedtuple NamedTuple TypedDict TYPE_CHECKING abstractmethod""".split())
UNUSED_PARTS = ("dataclass", "overload", "contextmanager")
FILE_NAMES_NOT_USED = UNUSED_WORDS | set(dir(builtins)) | set("""test tests testing site conftest sitecustomize
usercustomize""".split())
DUNDERS = {"__init__", "__eq__", "__repr__", "__str__", "__len__"}
STATEMENTS = (ast.Assign, ast.AugAssign, ast.If, ast.While, ast.For, ast.Return, ast.Break, ast.Continue, ast.Pass,
              ast.Raise, ast.Try, ast.Expr, ast.FunctionDef, ast.ClassDef, ast.ImportFrom)
EXPRESSIONS = (ast.Constant, ast.List, ast.Tuple, ast.Dict, ast.BinOp, ast.UnaryOp, ast.Compare, ast.BoolOp, ast.IfExp,
               ast.Call, ast.Attribute, ast.Subscript, ast.Slice, ast.ListComp, ast.JoinedStr, ast.FormattedValue,
               ast.Lambda, ast.Name)
KEYWORDS = {"sorted": {"key", "reverse"}, "min": {"key", "default"}, "max": {"key", "default"}, "sum": {"start"},
            "enumerate": {"start"}, "zip": {"strict"}}
WALKED_AT_ONCE = {"zip", "enumerate", "reversed", "range"}
WALKERS = {"list", "tuple", "dict", "sorted", "sum", "any", "all", "enumerate", "zip", "min", "max"}


def is_plain_value(node):
    if isinstance(node, (ast.List, ast.Tuple)):
        return all(is_plain_value(part) for part in node.elts)
    if isinstance(node, ast.Dict):
        return all(is_plain_value(part) for part in node.keys + node.values)
    if isinstance(node, ast.UnaryOp) and isinstance(node.op, ast.USub):
        return isinstance(node.operand, ast.Constant)
    return isinstance(node, (ast.Constant, ast.Name))


def file_faults(path):
    """Of a file's name, as a path within the package."""
    stem = path[:-3] if path.endswith(".py") else None
    if stem is None or not re.fullmatch("[a-z0-9_]+", stem):
        return [("L1", 0)]
    if stem in FILE_NAMES_NOT_USED or stem.startswith("test_"):
        return [("L14", 0)]
    return []


def text_faults(text):
    faults = []
    rows = text.split("\n")
    if len(rows) > 401 or (len(rows) == 401 and rows[-1] != ""):
        faults.append(("L10", 401))
    for number, row in enumerate(rows, start=1):
        if len(row) > 120:
            faults.append(("L10", number))
        if any(not " " <= sign <= "~" for sign in row):
            faults.append(("L14", number))
        words = set(re.findall("[A-Za-z0-9_]+", row))
        if words & UNUSED_WORDS or any(part in row for part in UNUSED_PARTS):
            faults.append(("L17", number))
        if re.search(r"\\[^nt\\'\"]", row):
            faults.append(("L27", number))
    return faults


class Checker(ast.NodeVisitor):
    def __init__(self, tree):
        self.faults = []
        self.at_top = tree.body
        imports = [node for node in tree.body if isinstance(node, ast.ImportFrom)]
        self.imports = {alias.asname or alias.name for node in imports for alias in node.names}
        self.classes = {node.name for node in tree.body if isinstance(node, ast.ClassDef)}
        self.parents = {child: node for node in ast.walk(tree) for child in ast.iter_child_nodes(node)}
        self.methods = {part.name for node in tree.body if isinstance(node, ast.ClassDef)
                        for part in node.body if isinstance(part, ast.FunctionDef)}

    def fault(self, rule, node):
        self.faults.append((rule, getattr(node, "lineno", 0)))

    def check_top(self):
        bound = []
        for k, node in enumerate(self.at_top):
            if isinstance(node, ast.Assign):
                if not (isinstance(node.targets[0], ast.Name) and is_plain_value(node.value)):
                    self.fault("L3", node)
                else:
                    bound.append(node.targets[0].id)
                    self.check_nesting(node.value)
            elif isinstance(node, (ast.FunctionDef, ast.ClassDef)):
                bound.append(node.name)
            elif isinstance(node, ast.ImportFrom):
                bound += [alias.asname or alias.name for alias in node.names]
            elif not (k == 0 and isinstance(node, ast.Expr) and isinstance(node.value, ast.Constant)):
                self.fault("L3", node)
        if len(bound) != len(set(bound)):
            self.fault("L15", self.at_top[0])

    def check_nesting(self, value):
        parts = list(ast.walk(value))[1:] if isinstance(value, (ast.List, ast.Dict)) else []
        if any(isinstance(part, (ast.List, ast.Dict)) for part in parts):
            self.fault("L15", value)

    def generic_visit(self, node):
        if isinstance(node, ast.stmt) and not isinstance(node, STATEMENTS):
            self.fault("L6", node)
        if isinstance(node, ast.expr) and not isinstance(node, EXPRESSIONS):
            self.fault("L7", node)
        if isinstance(node, ast.keyword) and node.arg is None:
            self.fault("L7", node)
        super().generic_visit(node)

    def visit_Import(self, node):
        self.fault("L2", node)

    def visit_ImportFrom(self, node):
        parts = (node.module or "").split(".")
        is_own = node.level == 0 and parts[0] == PACKAGE and len(parts) == 2 and parts[1] != "__main__"
        if not is_own or node not in self.at_top or any(alias.name == "*" for alias in node.names):
            self.fault("L2", node)

    def check_bound(self, name, node):
        if name not in DUNDERS and not re.fullmatch("[A-Za-z][A-Za-z0-9_]*", name):
            self.fault("L12", node)
        if hasattr(builtins, name):
            self.fault("L15", node)
        if name in UNUSED_NAMES:
            self.fault("L17", node)

    def check_local(self, name, node):
        self.check_bound(name, node)
        if name in self.imports or name in self.classes:
            self.fault("L15", node)

    def visit_FunctionDef(self, node):
        arguments = node.args
        if arguments.vararg or arguments.kwarg or arguments.kwonlyargs or arguments.posonlyargs or node.decorator_list:
            self.fault("L4", node)
        if not all(isinstance(value, ast.Constant) for value in arguments.defaults):
            self.fault("L4", node)
        if node.returns or any(argument.annotation for argument in arguments.args):
            self.fault("L21", node)
        if node.end_lineno - node.lineno + 1 > 40:
            self.fault("L10", node)
        if isinstance(self.parents[node], ast.ClassDef):
            if node.name not in METHODS | {"add", "discard"} and node.name not in DUNDERS:
                self.check_value_name(node.name, node)
        else:
            self.check_bound(node.name, node)
        for argument in arguments.args:
            self.check_local(argument.arg, node)
        self.generic_visit(node)

    def visit_ClassDef(self, node):
        if node not in self.at_top:
            self.fault("L15", node)
        if len(node.bases) > 1 or node.keywords or node.decorator_list:
            self.fault("L5", node)
        names = [part.name for part in node.body if isinstance(part, ast.FunctionDef)]
        if any(not isinstance(part, (ast.FunctionDef, ast.Pass)) for part in node.body):
            self.fault("L5", node)
        if any(name.startswith("__") and name not in DUNDERS for name in names):
            self.fault("L5", node)
        if len(names) != len(set(names)):
            self.fault("L18", node)
        self.check_bound(node.name, node)
        self.generic_visit(node)

    def check_value_name(self, name, node):
        if not re.fullmatch("[A-Za-z][A-Za-z0-9_]*", name):
            self.fault("L12", node)
        if name in VALUES_OF_PYTHON - FREE_VALUES:
            self.fault("L26", node)

    def visit_Assign(self, node):
        if len(node.targets) != 1 or isinstance(node.targets[0], (ast.Tuple, ast.List)):
            self.fault("L6", node)
        self.generic_visit(node)

    def visit_For(self, node):
        if node.orelse or not isinstance(node.target, ast.Name):
            self.fault("L6", node)
        self.generic_visit(node)

    def visit_While(self, node):
        if node.orelse:
            self.fault("L6", node)
        self.generic_visit(node)

    def visit_Try(self, node):
        if node.finalbody or any(handler.type is None for handler in node.handlers):
            self.fault("L6", node)
        caught = [name.id for handler in node.handlers for name in ast.walk(handler.type or ast.Pass())
                  if isinstance(name, ast.Name)]
        if set(caught) & {"Exception", "TypeError"}:
            self.fault("L19", node)
        self.generic_visit(node)

    def visit_Raise(self, node):
        if not isinstance(node.exc, ast.Call):
            self.fault("L19", node)
        self.generic_visit(node)

    def visit_Expr(self, node):
        if node not in self.at_top and not isinstance(node.value, ast.Call):
            self.fault("L6", node)
        self.generic_visit(node)

    def visit_Constant(self, node):
        if node.value is not None and not isinstance(node.value, (int, str)):
            self.fault("L7", node)
        if isinstance(node.value, str) and "%" in node.value:
            self.fault("L27", node)

    def visit_BinOp(self, node):
        if isinstance(node.op, (ast.Div, ast.MatMult)):
            self.fault("L7", node)
        if isinstance(node.op, ast.Pow):
            power = node.right.value if isinstance(node.right, ast.Constant) else -1
            if not 0 <= power <= 64:
                self.fault("L27", node)
        self.generic_visit(node)

    def visit_Compare(self, node):
        sides = [node.left] + node.comparators
        for k, operator in enumerate(node.ops):
            pair = sides[k:k + 2]
            beside = [side for side in pair if isinstance(side, ast.Constant) and side.value in (None, True, False)]
            if isinstance(operator, (ast.Is, ast.IsNot)) and not beside:
                self.fault("L20", node)
        self.generic_visit(node)

    def visit_ListComp(self, node):
        if len(node.generators) != 1 or len(node.generators[0].ifs) > 1:
            self.fault("L7", node)
        self.generic_visit(node)

    def visit_FormattedValue(self, node):
        if not isinstance(node.value, ast.Name) or node.format_spec:
            self.fault("L7", node)
        self.generic_visit(node)

    def visit_Name(self, node):
        if isinstance(node.ctx, ast.Store):
            if self.parents[node] in self.at_top:
                self.check_bound(node.id, node)
            else:
                self.check_local(node.id, node)
        elif node.id in UNUSED_NAMES:
            self.fault("L17", node)
        elif hasattr(builtins, node.id) and node.id not in OWN_NAMES:
            self.fault("L8", node)
        elif node.id in OWN_NAMES and not self.is_called_or_named(node):
            self.fault("L22", node)
        elif node.id.startswith("_"):
            self.fault("L12", node)

    def is_called_or_named(self, node):
        parent = self.parents[node]
        if isinstance(parent, ast.Call) and parent.func is node:
            return True
        if isinstance(parent, ast.keyword):
            return parent.arg == "key"
        return isinstance(parent, (ast.ClassDef, ast.ExceptHandler, ast.Tuple)) or self.is_kind_asked(parent)

    def is_kind_asked(self, parent):
        return isinstance(parent, ast.Call) and getattr(parent.func, "id", "") == "isinstance"

    def visit_Attribute(self, node):
        parent = self.parents[node]
        if node.attr in UNUSED_NAMES:
            self.fault("L17", node)
        if isinstance(parent, ast.Call) and parent.func is node:
            if node.attr not in METHODS | self.methods:
                self.fault("L25", node)
        else:
            self.check_value_name(node.attr, node)
        self.generic_visit(node)

    def visit_Call(self, node):
        name = node.func.id if isinstance(node.func, ast.Name) else ""
        words = {keyword.arg for keyword in node.keywords}
        if words and not words <= KEYWORDS.get(name, words if name not in OWN_NAMES else set()):
            self.fault("L22", node)
        if isinstance(node.func, ast.Attribute) and words and node.func.attr in METHODS:
            self.fault("L22", node)
        if name == "set" or name == "frozenset":
            self.fault("L24", node)
        if name in WALKED_AT_ONCE or (isinstance(node.func, ast.Attribute) and node.func.attr in ("items", "keys", "values")):
            if not self.is_walked(node):
                self.fault("L23", node)
        self.generic_visit(node)

    def is_walked(self, node):
        parent = self.parents[node]
        if isinstance(parent, (ast.For, ast.comprehension)):
            return parent.iter is node
        return isinstance(parent, ast.Call) and getattr(parent.func, "id", "") in WALKERS


def code_faults(text):
    tree = ast.parse(text)
    checker = Checker(tree)
    checker.check_top()
    checker.visit(tree)
    return checker.faults


def faults_of(text):
    """All faults of one file's text, as pairs of a rule and a line."""
    return sorted(set(text_faults(text) + code_faults(text)))


def defined_names(text):
    names = set()
    for node in ast.parse(text).body:
        if isinstance(node, (ast.FunctionDef, ast.ClassDef)):
            names.add(node.name)
        elif isinstance(node, ast.Assign):
            names.update(target.id for target in node.targets)
    return names


def drawn_from(text):
    rows = [node for node in ast.parse(text).body if isinstance(node, ast.ImportFrom)]
    return [(node.module.split(".")[-1], alias.name) for node in rows for alias in node.names]


def package_faults(texts):
    """Of a package as a whole: texts by their files' names."""
    faults = [] if "__init__.py" in texts else [("L14", "__init__.py")]
    sources = {}
    for path, text in texts.items():
        sources[path[:-3]] = {source for source, name in drawn_from(text)}
        for source, name in drawn_from(text):
            if name not in defined_names(texts.get(source + ".py", "")):
                faults.append(("L16", path))
    while sources:
        ready = [stem for stem, needed in sources.items() if not needed & set(sources)]
        if not ready:
            return faults + [("L16", stem + ".py") for stem in sources]
        sources = {stem: needed for stem, needed in sources.items() if stem not in ready}
    return faults + name_faults(texts)


def name_faults(texts):
    """No name is a method in one class and a value in another."""
    methods = {}
    values = {}
    for path, text in texts.items():
        for node in ast.walk(ast.parse(text)):
            if isinstance(node, ast.ClassDef):
                methods.update({part.name: path for part in node.body if isinstance(part, ast.FunctionDef)})
            if isinstance(node, ast.Attribute) and isinstance(node.ctx, ast.Store):
                values[node.attr] = path
    return [("L18", values[name]) for name in values if name in methods]
