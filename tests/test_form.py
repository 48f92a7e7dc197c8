"""The files of the package keep the rules of LANGUAGE.md, as far as a look at each file can tell."""

import ast
import builtins
import io
import pathlib
import re
import tokenize
import unittest
import warnings

FOLDER = pathlib.Path(__file__).resolve().parent.parent / "houseslessties"
LIBRARY = {
    "heapq": {"heappush", "heappop", "heapify", "heapreplace", "heappushpop"},
    "math": {"gcd", "lcm", "isqrt", "comb", "perm", "factorial"},
    "itertools": {"product", "combinations", "permutations", "chain", "accumulate", "pairwise", "islice",
                  "zip_longest"},
    "collections": {"defaultdict"},
}
BUILTINS = set("""len range enumerate zip min max sum abs sorted reversed int str bool bytes list tuple dict set
    isinstance ord repr any all divmod pow getattr hasattr setattr iter next map Exception ValueError TypeError
    KeyError IndexError LookupError ZeroDivisionError ArithmeticError OverflowError RuntimeError NotImplementedError
    AttributeError StopIteration NotImplemented property staticmethod classmethod""".split())
METHODS = set("""append clear copy count endswith extend find get index insert isalnum isalpha isdigit islower isspace
    isupper items join keys ljust lower lstrip partition pop remove replace reverse rfind rjust rpartition rsplit
    rstrip setdefault split splitlines startswith strip update upper values zfill bit_length add discard title
    capitalize swapcase casefold center expandtabs removeprefix removesuffix rindex isascii isdecimal isnumeric
    istitle isidentifier isprintable""".split())
CHANGING = {"append", "clear", "extend", "insert", "pop", "remove", "reverse", "setdefault", "update", "add", "discard"}
DUNDERS = {"__init__", "__eq__", "__repr__", "__str__", "__len__", "__enter__", "__exit__", "__call__", "__iter__"}
BARRED_NAMES = set("""register mro elements open input law version_info with_traceback add_note attrgetter breakpoint
    builtins compile copyright credits delattr dir eval exec exit gc globals help id importlib license locals
    methodcaller os quit type vars sys""".split())
BARRED_WORDS = set("""type typing typing_extensions enum Enum IntEnum StrEnum Flag IntFlag Generic Protocol ABC ABCMeta
    namedtuple NamedTuple TypedDict TYPE_CHECKING abstractmethod""".split())
BARRED_ATTRIBUTES = set("""items keys values pop update append clear extend insert remove reverse setdefault sort args
    encode decode hex fromhex format format_map mro bit_count conjugate from_bytes is_integer to_bytes""".split())
BARRED_NODES = (
    ast.Global, ast.AsyncFunctionDef, ast.AsyncFor, ast.AsyncWith, ast.Await, ast.Div, ast.MatMult, ast.Import,
)
# Where a doctest ran ahead of these tests, Python keeps its last result among the builtins under this name.
PYTHON_NAMES = set(dir(builtins)) - {"_"}
AT_ONCE = {"zip", "enumerate", "reversed", "range"}
TAKERS = {"list", "tuple", "dict", "sorted", "sum", "any", "all", "enumerate", "zip", "min", "max", "bytes"}
KEYWORDS = {"sorted": {"key", "reverse"}, "min": {"key", "default"}, "max": {"key", "default"}, "sum": {"start"},
            "enumerate": {"start"}, "zip": {"strict"}}


class Look:
    """What is wrong with one file."""

    def __init__(self, path):
        self.path = path
        self.text = path.read_bytes().decode("utf-8")
        with warnings.catch_warnings():
            warnings.simplefilter("error")
            self.tree = ast.parse(self.text)
            compile(self.text, str(path), "exec")
        self.parents = {child: node for node in ast.walk(self.tree) for child in ast.iter_child_nodes(node)}
        self.faults = []

    def say(self, rule, node, words=""):
        line = node if isinstance(node, int) else getattr(node, "lineno", 0)
        self.faults.append(f"{rule} {self.path.name}:{line} {words}")

    def look(self):
        self.look_at_text()
        self.look_at_tokens()
        self.look_at_module()
        self.look_at_names()
        for node in ast.walk(self.tree):
            self.look_at_node(node)
        return self.faults

    def look_at_text(self):
        lines = self.text.split("\n")
        if len(lines) > 400:
            self.say("L10", len(lines), "too many lines")
        for at, line in enumerate(lines, 1):
            if len(line) > 120:
                self.say("L10", at, "too long")
            if re.search(r"[^ -~]", line):
                self.say("L14", at, "character")
        if re.search(r"_wall\b|_WallAttr", self.text):
            self.say("L12", 0, "_wall")

    def look_at_tokens(self):
        for token in tokenize.generate_tokens(io.StringIO(self.text).readline):
            if token.type == tokenize.STRING or token.type == getattr(tokenize, "FSTRING_MIDDLE", -1):
                if re.search(r"\\[^nt\\'\"]", token.string):
                    self.say("L27", token.start[0], "escape")

    def look_at_module(self):
        imports = True
        for at, node in enumerate(self.tree.body):
            if isinstance(node, ast.ImportFrom):
                if not imports:
                    self.say("L2", node, "import below")
                self.look_at_import(node)
            elif isinstance(node, (ast.FunctionDef, ast.ClassDef)):
                imports = False
            elif isinstance(node, ast.Assign):
                imports = False
                if len(node.targets) != 1 or not isinstance(node.targets[0], ast.Name):
                    self.say("L3", node, "target")
            elif not (at == 0 and isinstance(node, ast.Expr) and isinstance(node.value, ast.Constant)):
                self.say("L3", node, "statement")

    def look_at_import(self, node):
        if node.level or any(one.asname or one.name == "*" for one in node.names):
            self.say("L2", node)
        elif node.module in LIBRARY:
            if not {one.name for one in node.names} <= LIBRARY[node.module]:
                self.say("L2", node)
        elif not re.fullmatch(r"houseslessties\.[a-z_]+", node.module):
            self.say("L2", node)
        else:
            told = top_names(FOLDER / f"{node.module.split('.')[1]}.py")
            for one in node.names:
                if one.name not in told:
                    self.say("L16", node, one.name)

    def look_at_names(self):
        imported = {one.name for node in ast.walk(self.tree) if isinstance(node, ast.ImportFrom) for one in node.names}
        classes = {node.name for node in ast.walk(self.tree) if isinstance(node, ast.ClassDef)}
        top = top_names(self.path)
        if imported & top:
            self.say("L15", 0, "two bindings")
        for node in ast.walk(self.tree):
            for name in bound_names(node):
                if name in imported | classes:
                    self.say("L15", node, name)
                if name in PYTHON_NAMES or name in BARRED_NAMES or not re.fullmatch(r"_?[A-Za-z][A-Za-z0-9_]*|_", name):
                    self.say("L12 L15 L17", node, name)
            if isinstance(node, ast.Name) and isinstance(node.ctx, ast.Load):
                if node.id in PYTHON_NAMES and node.id not in BUILTINS or node.id == "_":
                    self.say("L8", node, node.id)
            if isinstance(node, (ast.FunctionDef, ast.ClassDef)):
                method = isinstance(self.parents[node], ast.ClassDef)
                if node.name.startswith("__") and not (method and node.name in DUNDERS):
                    self.say("L5", node, node.name)
                if not method and (node.name in PYTHON_NAMES or node.name in BARRED_NAMES):
                    self.say("L15", node, node.name)

    def look_at_node(self, node):
        if isinstance(node, BARRED_NODES):
            self.say("L2 L6 L7", node, type(node).__name__)
        if isinstance(node, (ast.FunctionDef, ast.ClassDef)) and node.decorator_list:
            self.say("L4", node, "decorator")
        if isinstance(node, ast.FunctionDef) and node.end_lineno - node.lineno >= 40:
            self.say("L10", node, "too long a function")
        if isinstance(node, ast.Constant):
            self.look_at_constant(node)
        if isinstance(node, ast.Compare):
            for operator, other in zip(node.ops, node.comparators):
                if isinstance(operator, (ast.Is, ast.IsNot)) and not (
                        isinstance(other, ast.Constant) and other.value in (None, True, False)):
                    self.say("L20", node)
        if isinstance(node, ast.Raise) and node.exc is not None:
            if not (isinstance(node.exc, ast.Call) and isinstance(node.exc.func, ast.Name)):
                self.say("L19", node, "raise")
            elif any(isinstance(one, ast.Starred) for one in node.exc.args) or node.exc.keywords:
                self.say("L7 L19", node, "raise")
        if isinstance(node, ast.ExceptHandler) and node.type is None:
            self.say("L6", node, "except")
        if isinstance(node, (ast.Set, ast.SetComp)) or is_call(node, {"set", "frozenset"}):
            self.look_at_set(node)
        if is_call(node, AT_ONCE) or (isinstance(node, ast.Call) and isinstance(node.func, ast.Attribute)
                                      and node.func.attr in ("items", "keys", "values")):
            if not self.is_iterated(node):
                self.say("L23", node, "kept")
        if isinstance(node, ast.GeneratorExp) and not is_call(self.parents[node], {"list", "tuple", "dict"}):
            self.say("L7", node, "generator expression")
        if isinstance(node, ast.Call):
            self.look_at_call(node)
        if isinstance(node, ast.Attribute) and isinstance(node.ctx, ast.Store) and node.attr in BARRED_ATTRIBUTES:
            self.say("L26", node, node.attr)
        if isinstance(node, (ast.For, ast.comprehension)):
            self.look_at_loop(node)
        if isinstance(node, ast.BinOp) and isinstance(node.op, ast.Pow):
            if not isinstance(node.right, ast.Constant):
                self.say("L27", node, "exponent")

    def look_at_constant(self, node):
        if isinstance(node.value, (float, complex)) or node.value is ...:
            self.say("L7", node)
        if not isinstance(node.value, str):
            return
        docstring = isinstance(self.parents[node], ast.Expr)
        if "%" in node.value or node.value.endswith(("._", ".__")) or re.fullmatch(r"__.*__", node.value):
            self.say("L27", node, node.value)
        if not docstring and set(re.findall(r"\w+", node.value)) & BARRED_WORDS:
            self.say("L17", node, node.value)

    def look_at_set(self, node):
        parent = self.parents[node]
        beside = isinstance(parent, ast.Compare)
        stored = isinstance(parent, ast.Assign) and isinstance(parent.targets[0], ast.Name)
        if not (beside or stored or is_call(parent, {"sorted", "len"})):
            self.say("L24", node)

    def is_iterated(self, node):
        parent = self.parents[node]
        if isinstance(parent, (ast.For, ast.comprehension)):
            return parent.iter is node
        if isinstance(parent, ast.Compare):
            return is_call(node, {"range"}) and isinstance(parent.ops[0], (ast.In, ast.NotIn))
        if is_call(node, {"range"}) and is_call(parent, {"len", "reversed"}):
            return True
        return is_call(parent, TAKERS)

    def look_at_call(self, node):
        if isinstance(node.func, ast.Attribute):
            if node.func.attr not in METHODS | OWN_METHODS:
                self.say("L25", node, node.func.attr)
            if node.func.attr in METHODS - OWN_METHODS and node.keywords:
                self.say("L25", node, "keyword")
            if node.func.attr == "join" and not isinstance(node.func.value, ast.Constant):
                self.say("L25", node, "join")
        elif isinstance(node.func, ast.Name) and node.func.id in BUILTINS:
            if not {one.arg for one in node.keywords} <= KEYWORDS.get(node.func.id, set()):
                self.say("L22", node, "keyword")

    def look_at_loop(self, node):
        within = [self.parents[node]] if isinstance(node, ast.comprehension) else node.body
        read = {ast.dump(one) for one in ast.walk(node.iter) if isinstance(one, (ast.Name, ast.Attribute))}
        for part in [one for start in within for one in ast.walk(start)]:
            if isinstance(part, ast.Call) and isinstance(part.func, ast.Attribute) and part.func.attr in CHANGING:
                changed = part.func.value
            elif isinstance(part, ast.Subscript) and isinstance(part.ctx, (ast.Store, ast.Del)):
                changed = part.value
            else:
                continue
            if ast.dump(changed).replace("Store()", "Load()") in read:
                self.say("L23", part, "changed in its loop")


def is_call(node, names):
    return isinstance(node, ast.Call) and isinstance(node.func, ast.Name) and node.func.id in names


def bound_names(node):
    """The names of parameters, variables and caught errors that a node binds."""
    if isinstance(node, ast.arg):
        return [node.arg]
    if isinstance(node, ast.Name) and not isinstance(node.ctx, ast.Load):
        return [node.id]
    if isinstance(node, ast.ExceptHandler) and node.name:
        return [node.name]
    return []


def top_names(path):
    """The names that a file defines itself."""
    names = set()
    for node in ast.parse(path.read_text("utf-8")).body:
        if isinstance(node, (ast.FunctionDef, ast.ClassDef)):
            names.add(node.name)
        elif isinstance(node, ast.Assign):
            names.update(target.id for target in node.targets if isinstance(target, ast.Name))
    return names


def own_methods():
    return {
        part.name for path in FOLDER.glob("*.py") for node in ast.parse(path.read_text("utf-8")).body
        if isinstance(node, ast.ClassDef) for part in node.body if isinstance(part, ast.FunctionDef)
    }


def imports_of(path):
    return {
        node.module.split(".")[1] for node in ast.parse(path.read_text("utf-8")).body
        if isinstance(node, ast.ImportFrom) and node.module.startswith("houseslessties.")
    }


OWN_METHODS = own_methods()


class FormTest(unittest.TestCase):
    def test_each_file(self):
        for path in sorted(FOLDER.glob("*.py")):
            self.assertEqual(Look(path).look(), [])

    def test_folder_holds_nothing_else(self):
        for path in FOLDER.iterdir():
            if path.name != "__pycache__":
                self.assertRegex(path.name, r"^([a-z][a-z0-9_]*|__init__)\.py$")

    def test_no_two_files_import_each_other(self):
        left = {path.stem: imports_of(path) for path in FOLDER.glob("*.py")}
        while left:
            ready = [name for name in left if not left[name] & set(left)]
            self.assertTrue(ready, sorted(left))
            left = {name: left[name] for name in left if name not in ready}

    def test_no_name_is_a_method_and_an_attribute(self):
        attributes = {
            node.attr for path in FOLDER.glob("*.py") for node in ast.walk(ast.parse(path.read_text("utf-8")))
            if isinstance(node, ast.Attribute) and isinstance(node.ctx, ast.Store)
        }
        self.assertEqual(attributes & OWN_METHODS, set())

    def test_a_bent_file_is_seen(self):
        bent = {
            "L7": "def bent(a):\n    return a / 2\n", "L24": "def bent(a):\n    return set(a)\n",
            "L23": "def bent(a):\n    for k in a:\n        a.append(k)\n", "L20": "def bent(a):\n    return a is bent\n",
            "L8": "def bent(a):\n    return print(a)\n", "L15": "def bent(hash):\n    return hash\n",
            "L3": "BENT = 1\nBENT += 1\n", "L25": "def bent(a):\n    return a.popitem()\n",
            "L10": "def bent(a):\n" + "    a = 1\n" * 40, "L27": "def bent(a):\n    return '%'\n",
        }
        for rule, text in bent.items():
            look = Look(FOLDER / "errors.py")
            look.text = text
            look.tree = ast.parse(text)
            look.parents = {child: node for node in ast.walk(look.tree) for child in ast.iter_child_nodes(node)}
            self.assertTrue(any(rule in fault for fault in look.look()), rule)
