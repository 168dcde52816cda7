"""A looker for the part of Python that the package keeps to: most of the rules L1 to L28, by their numbers."""

import ast
import builtins
import re

CALLED = """len range enumerate zip min max sum abs sorted reversed int str bool list tuple dict set frozenset isinstance
ord repr any all divmod Exception ValueError TypeError KeyError IndexError LookupError ZeroDivisionError ArithmeticError
OverflowError RuntimeError NotImplementedError StopIteration""".split()
METHODS = """append clear copy count endswith extend find get index insert isalnum isalpha isdigit islower isspace isupper
items join keys ljust lower lstrip partition pop remove replace reverse rfind rjust rpartition rsplit rstrip setdefault
split splitlines startswith strip update upper values zfill bit_length""".split()
WALKED = ("zip", "enumerate", "reversed", "range", "items", "keys", "values")
WALKERS = ("list", "tuple", "dict", "sorted", "sum", "any", "all", "enumerate", "zip", "min", "max", "join")
DUNDERS = ("__init__", "__eq__", "__repr__", "__str__", "__len__")
WORDS = """type typing typing_extensions enum Enum IntEnum StrEnum Flag IntFlag Generic Protocol ABC ABCMeta namedtuple
NamedTuple TypedDict TYPE_CHECKING abstractmethod""".split()
PIECES = ("dataclass", "overload", "contextmanager")
NOWHERE = "register mro elements open input version_info with_traceback add_note format format_map".split()
STATEMENTS = (ast.Assign, ast.AugAssign, ast.If, ast.While, ast.For, ast.Return, ast.Break, ast.Continue, ast.Pass,
              ast.Raise, ast.Try, ast.FunctionDef, ast.ClassDef, ast.ImportFrom, ast.Expr)
OUT = {
    ast.SetComp: "L7", ast.DictComp: "L7", ast.GeneratorExp: "L7", ast.NamedExpr: "L7", ast.Starred: "L7",
    ast.Div: "L7", ast.MatMult: "L7", ast.Await: "L6", ast.Yield: "L6", ast.YieldFrom: "L6", ast.AnnAssign: "L21",
}


class Looker:
    def __init__(self, package, text):
        self.package = package
        self.text = text
        self.found = []
        self.tree = ast.parse(text)
        self.above = {}
        self.fixed = [node.name for node in self.tree.body if isinstance(node, ast.ClassDef)]
        for node in self.tree.body:
            if isinstance(node, ast.ImportFrom):
                self.fixed.extend(alias.asname or alias.name for alias in node.names)
        for node in ast.walk(self.tree):
            for child in ast.iter_child_nodes(node):
                self.above[child] = node

    def tell(self, rule, node):
        line = node if isinstance(node, int) else getattr(node, "lineno", 0)
        self.found.append((rule, line))

    def look(self):
        self.look_at_lines()
        self.look_at_top()
        for node in ast.walk(self.tree):
            for kind, rule in OUT.items():
                if isinstance(node, kind):
                    self.tell(rule, node)
            if isinstance(node, ast.stmt) and not isinstance(node, STATEMENTS):
                self.tell("L6", node)
            look = getattr(self, "look_at_" + type(node).__name__, None)
            if look is not None:
                look(node)
        return sorted(set(self.found))

    def look_at_lines(self):
        lines = self.text.split("\n")
        if len(lines) > 401:
            self.tell("L10", len(lines))
        for number, line in enumerate(lines, start=1):
            if len(line) > 120:
                self.tell("L10", number)
            if re.search(r"[^ -~]", line):
                self.tell("L14", number)
            if set(re.findall(r"\w+", line)) & set(WORDS) or any(piece in line for piece in PIECES):
                self.tell("L17", number)

    def look_at_top(self):
        bound = []
        for number, node in enumerate(self.tree.body):
            if isinstance(node, ast.Expr) and not (number == 0 and is_text(node.value)):
                self.tell("L3", node)
            if not isinstance(node, (ast.Expr, ast.ImportFrom, ast.FunctionDef, ast.ClassDef, ast.Assign)):
                self.tell("L3", node)
            if isinstance(node, ast.Assign):
                bound.extend(target.id for target in node.targets if isinstance(target, ast.Name))
                if any(isinstance(each, (ast.Call, ast.Set, ast.ListComp, ast.Lambda)) for each in ast.walk(node)):
                    self.tell("L3", node)
            if isinstance(node, (ast.FunctionDef, ast.ClassDef)):
                bound.append(node.name)
            if isinstance(node, ast.ImportFrom):
                bound.extend(alias.asname or alias.name for alias in node.names)
        if len(bound) != len(set(bound)):
            self.tell("L15", 0)

    def look_at_ImportFrom(self, node):
        if node.level or not (node.module or "").startswith(self.package + "."):
            self.tell("L2", node)
        if any(alias.name == "*" for alias in node.names) or self.above[node] is not self.tree:
            self.tell("L2", node)

    def look_at_FunctionDef(self, node):
        taken = node.args
        if node.end_lineno - node.lineno + 1 > 40:
            self.tell("L10", node)
        if taken.vararg or taken.kwarg or taken.kwonlyargs or taken.posonlyargs or node.decorator_list:
            self.tell("L4", node)
        if node.returns or any(each.annotation for each in taken.args):
            self.tell("L21", node)
        self.look_at_word(node, node.name)
        if hasattr(builtins, node.name) and not isinstance(self.above[node], ast.ClassDef):
            self.tell("L15", node)

    def look_at_ClassDef(self, node):
        if len(node.bases) > 1 or node.keywords or node.decorator_list:
            self.tell("L5", node)
        if any(not isinstance(each, (ast.FunctionDef, ast.Pass)) for each in node.body):
            self.tell("L5", node)
        if self.above[node] is not self.tree:
            self.tell("L15", node)

    def look_at_arg(self, node):
        self.look_at_word(node, node.arg)
        if hasattr(builtins, node.arg) or node.arg in self.fixed:
            self.tell("L15", node)

    def look_at_Name(self, node):
        self.look_at_word(node, node.id)
        if node.id in self.fixed and not isinstance(node.ctx, ast.Load):
            self.tell("L15", node)
        if hasattr(builtins, node.id):
            if not isinstance(node.ctx, ast.Load):
                self.tell("L15", node)
            elif node.id not in CALLED:
                self.tell("L8", node)

    def look_at_word(self, node, word):
        if word in NOWHERE:
            self.tell("L17", node)
        if word.startswith("_") and word not in DUNDERS:
            self.tell("L12", node)

    def look_at_Attribute(self, node):
        self.look_at_word(node, node.attr)
        if hasattr("", node.attr) or hasattr([], node.attr) or hasattr({}, node.attr) or hasattr(0, node.attr):
            if node.attr not in METHODS and node.attr not in DUNDERS:
                self.tell("L25", node)

    def look_at_Assign(self, node):
        if len(node.targets) > 1:
            self.tell("L6", node)

    def look_at_Expr(self, node):
        above = self.above[node]
        if not isinstance(node.value, ast.Call) and above is not self.tree:
            self.tell("L6", node)

    def look_at_For(self, node):
        if node.orelse:
            self.tell("L6", node)

    def look_at_While(self, node):
        if node.orelse:
            self.tell("L6", node)

    def look_at_Try(self, node):
        if node.finalbody:
            self.tell("L6", node)

    def look_at_ExceptHandler(self, node):
        if node.type is None or any(isinstance(each, ast.Name) and each.id in ("Exception", "TypeError")
                                    for each in ast.walk(node.type)):
            self.tell("L19", node)

    def look_at_ListComp(self, node):
        if len(node.generators) > 1 or len(node.generators[0].ifs) > 1:
            self.tell("L7", node)

    def look_at_Set(self, node):
        self.tell("L24", node)

    def look_at_Compare(self, node):
        for sort, beside in zip(node.ops, node.comparators):
            if isinstance(sort, (ast.Is, ast.IsNot)):
                if not (isinstance(beside, ast.Constant) and beside.value in (None, True, False)):
                    self.tell("L20", node)

    def look_at_Call(self, node):
        name = called_name(node)
        above = self.above[node]
        if name in WALKED and not (isinstance(above, (ast.For, ast.comprehension)) and above.iter is node):
            if not (isinstance(above, ast.Call) and called_name(above) in WALKERS and above.args[0] is node):
                self.tell("L23", node)
        if name in ("set", "frozenset") and isinstance(node.func, ast.Name):
            if not isinstance(above, (ast.BinOp, ast.Compare)):
                if not (isinstance(above, ast.Call) and called_name(above) in ("sorted", "len") and not above.keywords):
                    self.tell("L24", node)
        if node.keywords and name not in ("sorted", "min", "max", "sum", "enumerate", "zip"):
            self.tell("L22", node)

    def look_at_BinOp(self, node):
        if isinstance(node.op, ast.Pow):
            written = isinstance(node.right, ast.Constant) and isinstance(node.right.value, int)
            if not written or not 0 <= node.right.value <= 64:
                self.tell("L27", node)

    def look_at_Constant(self, node):
        if isinstance(node.value, (float, complex, bytes)) or node.value is ...:
            self.tell("L7", node)
        if isinstance(node.value, str) and "%" in node.value:
            self.tell("L27", node)

    def look_at_FormattedValue(self, node):
        if not isinstance(node.value, ast.Name) or node.format_spec is not None:
            self.tell("L7", node)


def is_text(node):
    return isinstance(node, ast.Constant) and isinstance(node.value, str)


def called_name(node):
    if isinstance(node.func, ast.Attribute):
        return node.func.attr
    return node.func.id if isinstance(node.func, ast.Name) else None


def faults_of(package, text):
    """Pairs (rule, line) for what the looker finds in a file's text."""
    return Looker(package, text).look()


def drawn_from(package, text):
    """The names of the package's own files that a file draws from."""
    return [node.module[len(package) + 1:] for node in ast.parse(text).body
            if isinstance(node, ast.ImportFrom) and (node.module or "").startswith(package + ".")]


def own_names(text):
    """The names of the methods, and those of the values of objects, of all classes of a file."""
    classes = [node for node in ast.walk(ast.parse(text)) if isinstance(node, ast.ClassDef)]
    methods = {node.name for each in classes for node in each.body if isinstance(node, ast.FunctionDef)}
    values = {node.attr for each in classes for node in ast.walk(each)
              if isinstance(node, ast.Attribute) and isinstance(node.ctx, ast.Store)}
    return methods - set(DUNDERS), values


def taken_names():
    """The names of Python's own values that an object's values are not to have; methods may be called like some."""
    taken = {name for kind in (str, int, list, dict, set, frozenset, bytes, tuple) for name in dir(kind)}
    free_values = set("count index title find get join lower upper split strip copy add".split())
    return taken - set(METHODS) - {"add", "discard"}, taken - free_values | {"args"}
