"""Looks at the package's files for what ../shared/LANGUAGE.md rules out, as far as that can be seen.

Where a rule leaves a doubt or says "best", the narrower way is asked for. What depends on what values
are at run time (what a loop changes under another name) is not seen here.
"""

import ast
import builtins
import io
import re
import tokenize

PACKAGE = "othersum"

ERRORS = """Exception ValueError TypeError KeyError IndexError LookupError ZeroDivisionError ArithmeticError
OverflowError RuntimeError NotImplementedError AttributeError StopIteration""".split()
OWN_OF_PYTHON = ERRORS + """len range enumerate zip min max sum abs sorted reversed int str bool list tuple dict set
frozenset isinstance ord repr any all divmod""".split()
BUILTINS = [name for name in dir(builtins) if not name.startswith("_")]
METHODS = """append clear copy count endswith extend find get index insert isalnum isalpha isdigit islower isspace
isupper items join keys ljust lower lstrip partition pop remove replace reverse rfind rjust rpartition rsplit rstrip
setdefault split splitlines startswith strip update upper values zfill bit_length""".split()
DOUBLE = ["__init__", "__eq__", "__repr__", "__str__", "__len__"]
UNUSED = """register mro elements open input version_info with_traceback add_note attrgetter breakpoint builtins compile
copyright credits delattr dir eval exec exit gc getattr globals hasattr help id importlib license locals methodcaller
os quit setattr super type vars chr""".split()
UNUSED_ATTRIBUTES = """register mro elements open input version_info with_traceback add_note format format_map f_back
f_builtins f_code f_globals f_lasti f_lineno f_locals f_trace tb_frame tb_lasti tb_lineno tb_next co_code co_consts
co_names co_varnames""".split()
UNUSED_WORDS = """type typing typing_extensions enum Enum IntEnum StrEnum Flag IntFlag Generic Protocol ABC ABCMeta
namedtuple NamedTuple TypedDict TYPE_CHECKING abstractmethod""".split()
UNUSED_PIECES = ["dataclass", "overload", "contextmanager"]
FILE_NAMES = ["test", "tests", "testing", "site", "conftest", "sitecustomize", "usercustomize"] + UNUSED_WORDS
CHANGES = "append clear extend insert pop remove reverse setdefault update add discard sort".split()
NOT_VALUES = """items keys values pop update append clear extend insert remove reverse setdefault sort args encode
format""".split()

STATEMENTS = (ast.Assign, ast.AugAssign, ast.If, ast.While, ast.For, ast.Return, ast.Break, ast.Continue, ast.Pass,
              ast.Raise, ast.Try, ast.Expr, ast.FunctionDef, ast.ClassDef, ast.ImportFrom, ast.Import)
EXPRESSIONS = (ast.Constant, ast.List, ast.Tuple, ast.Dict, ast.Set, ast.BinOp, ast.UnaryOp, ast.Compare, ast.BoolOp,
               ast.IfExp, ast.Call, ast.Attribute, ast.Subscript, ast.Slice, ast.ListComp, ast.JoinedStr,
               ast.FormattedValue, ast.Lambda, ast.Name)
KEYWORDS = {"sorted": ["key", "reverse"], "min": ["key", "default"], "max": ["key", "default"], "sum": ["start"],
            "enumerate": ["start"], "zip": ["strict"]}
WALKS = ["zip", "enumerate", "reversed", "range"]
WALKERS = ["list", "tuple", "dict", "sorted", "sum", "any", "all", "enumerate", "zip"]


def faults(files):
    """files: the text of each file of the package by its name; told are lines "rule file:line words"."""
    found = []
    trees = {}
    for name in sorted(files):
        found += [f"{rule} {name}:{line} {words}" for rule, line, words in text_faults(name, files[name])]
        try:
            trees[name] = ast.parse(files[name])
        except SyntaxError:
            found.append(f"L7 {name}:1 no Python")
    own = Own(trees)
    for name, tree in trees.items():
        for rule, line, words in File(name, tree, own).found():
            found.append(f"{rule} {name}:{line} {words}")
    return found + cycle_faults(own)


def text_faults(name, text):
    found = []
    stem = name.rpartition(".")[0]
    if not re.fullmatch(r"([a-z][a-z0-9_]*|__init__|__main__)\.py", name):
        found.append(("L1", 1, "the file's name"))
    if stem in FILE_NAMES or stem in BUILTINS or stem.startswith("test_"):
        found.append(("L14", 1, "the file's name"))
    lines = text.split("\n")
    if len(lines) - (lines[-1] == "") > 400:
        found.append(("L10", 401, "more than 400 lines"))
    for number, line in enumerate(lines, start=1):
        if len(line) > 120:
            found.append(("L10", number, "more than 120 characters"))
        if re.search(r"[^ -~]", line):
            found.append(("L14", number, "a sign beyond blank to ~"))
        for word in re.findall(r"\w+", line):
            if word in UNUSED_WORDS or any([piece in word for piece in UNUSED_PIECES]):
                found.append(("L17", number, word))
    return found + escape_faults(text)


def escape_faults(text):
    found = []
    try:
        tokens = list(tokenize.generate_tokens(io.StringIO(text).readline))
    except (tokenize.TokenError, SyntaxError):
        return found
    for token in tokens:
        if token.type in (tokenize.STRING, getattr(tokenize, "FSTRING_MIDDLE", -1)):
            for escape in re.findall(r"\\(.)", token.string, re.S):
                if escape not in "nt\\'\"":
                    found.append(("L27", token.start[0], "an escape"))
    return found


class Own:
    """What the package itself defines: the names at the top of each file, methods, values of objects."""

    def __init__(self, trees):
        self.tops = {name: top_names(tree) for name, tree in trees.items()}
        self.draws = {name: drawn_from(tree) for name, tree in trees.items()}
        self.methods = {}
        self.values = {}
        for tree in trees.values():
            for node in ast.walk(tree):
                if isinstance(node, ast.ClassDef):
                    self.methods.update({item.name: True for item in node.body if isinstance(item, ast.FunctionDef)})
                if isinstance(node, ast.Attribute) and isinstance(node.ctx, ast.Store):
                    self.values[node.attr] = True


def top_names(tree):
    names = []
    for node in tree.body:
        if isinstance(node, (ast.FunctionDef, ast.ClassDef)):
            names.append(node.name)
        elif isinstance(node, ast.Assign):
            names += [target.id for target in node.targets if isinstance(target, ast.Name)]
    return names


def drawn_from(tree):
    modules = [node.module for node in ast.walk(tree) if isinstance(node, ast.ImportFrom) and node.module]
    return [module.partition(".")[2] + ".py" for module in modules if module.startswith(PACKAGE + ".")]


def cycle_faults(own):
    found = []
    for name in own.draws:
        reached = {}
        waiting = list(own.draws[name])
        while waiting:
            other = waiting.pop()
            if other not in reached:
                reached[other] = True
                # The __init__.py above a file is drawn from along with it.
                waiting += own.draws.get(other, []) + own.draws.get("__init__.py", [])
        if name in reached:
            found.append(f"L16 {name}:1 draws from itself")
    return found


def is_plain(node):
    """A plain value as L3 has it, in which names stand for functions above."""
    if isinstance(node, ast.UnaryOp):
        return isinstance(node.op, ast.USub) and is_plain(node.operand)
    if isinstance(node, (ast.List, ast.Tuple)):
        return all([is_plain(item) for item in node.elts])
    if isinstance(node, ast.Dict):
        return all([item is not None and is_plain(item) for item in node.keys + node.values])
    if isinstance(node, ast.BinOp):
        return is_plain(node.left) and is_plain(node.right)
    return isinstance(node, (ast.Constant, ast.Name))


def holds_lists(node):
    inner = [item for item in ast.walk(node) if item != node]
    return any([isinstance(item, (ast.List, ast.Dict)) for item in inner])


def is_truth_or_none(node):
    return isinstance(node, ast.Constant) and (node.value is None or isinstance(node.value, bool))


def called_name(node):
    if isinstance(node, ast.Call) and isinstance(node.func, ast.Name):
        return node.func.id
    return None


class File:
    """The faults of one file."""

    def __init__(self, name, tree, own):
        self.name = name
        self.tree = tree
        self.own = own
        self.faults = []
        self.parents = {}
        for node in ast.walk(tree):
            for kid in ast.iter_child_nodes(node):
                self.parents[kid] = node
        imports = [node for node in tree.body if isinstance(node, ast.ImportFrom)]
        self.imported = [alias.asname or alias.name for node in imports for alias in node.names]
        self.classes = [node.name for node in tree.body if isinstance(node, ast.ClassDef)]
        assigns = [node for node in tree.body if isinstance(node, ast.Assign)]
        self.kept = [node.targets[0].id for node in assigns if isinstance(node.value, (ast.List, ast.Dict))
                     and isinstance(node.targets[0], ast.Name)]

    def fault(self, rule, node, words):
        self.faults.append((rule, getattr(node, "lineno", 1), words))

    def ask(self, right, rule, node, words):
        if not right:
            self.fault(rule, node, words)

    def found(self):
        self.look_at_top()
        for node in ast.walk(self.tree):
            if isinstance(node, ast.stmt):
                self.look_at_statement(node)
            elif isinstance(node, ast.expr):
                self.look_at_expression(node)
            elif isinstance(node, ast.arg):
                self.look_at_bound(node.arg, node)
                self.ask(node.annotation is None, "L21", node, "an annotation")
            elif isinstance(node, ast.ExceptHandler):
                self.look_at_handler(node)
        return self.faults

    # The top of a file

    def look_at_top(self):
        body = self.tree.body
        docstring = bool(body) and isinstance(body[0], ast.Expr) and isinstance(body[0].value, ast.Constant)
        bound = {}
        for node in body[1:] if docstring else body:
            if self.is_main_row(node):
                continue
            right = isinstance(node, (ast.Import, ast.ImportFrom, ast.FunctionDef, ast.ClassDef, ast.Assign))
            self.ask(right, "L3", node, "a statement at the top")
            if isinstance(node, ast.Assign):
                self.ask(is_plain(node.value), "L3", node, "no plain value at the top")
                self.ask(not holds_lists(node.value), "L15", node, "a list or dict within one at the top")
        for name in self.own.tops[self.name] + self.imported:
            self.ask(name not in bound, "L15", self.tree, f"{name} is bound twice")
            bound[name] = True
        if self.name == "__init__.py":
            shared = [name for name in bound if name + ".py" in self.own.tops]
            self.ask(not shared, "L16", self.tree, "a name that a file has")

    def is_main_row(self, node):
        return (self.name == "__main__.py" and isinstance(node, ast.If)
                and ast.unparse(node.test) == "__name__ == '__main__'")

    def look_at_import(self, node):
        top = self.parents[node] == self.tree
        self.ask(top, "L2", node, "an import that isn't at the top")
        if isinstance(node, ast.Import):
            right = self.name == "__main__.py" and [alias.name for alias in node.names] == ["sys"]
            self.ask(right, "L16", node, "an import row without from")
            return
        if node.module == "__future__":
            self.ask([alias.name for alias in node.names] == ["annotations"], "L2", node, "from __future__")
            return
        module = node.module or ""
        self.ask(node.level == 0 and module.startswith(PACKAGE + "."), "L2", node, "drawn from elsewhere")
        drawn = module.partition(".")[2] + ".py"
        self.ask(drawn != "__main__.py", "L2", node, "drawn from __main__")
        for alias in node.names:
            self.ask(alias.name in self.own.tops.get(drawn, []), "L16", node, f"{alias.name} isn't defined there")

    # Statements

    def look_at_statement(self, node):
        self.ask(isinstance(node, STATEMENTS), "L6", node, "such a statement")
        if isinstance(node, (ast.Import, ast.ImportFrom)):
            self.look_at_import(node)
        elif isinstance(node, ast.FunctionDef):
            self.look_at_function(node)
        elif isinstance(node, ast.ClassDef):
            self.look_at_class(node)
        elif isinstance(node, ast.Assign):
            self.ask(len(node.targets) == 1, "L6", node, "more than one target")
        elif isinstance(node, (ast.For, ast.While)):
            self.ask(not node.orelse, "L6", node, "else behind a loop")
            if isinstance(node, ast.For):
                self.look_at_walk(node)
        elif isinstance(node, ast.Try):
            self.ask(not node.finalbody, "L6", node, "finally")
        elif isinstance(node, ast.Expr):
            docstring = self.parents[node] == self.tree and node == self.tree.body[0]
            self.ask(docstring or isinstance(node.value, ast.Call), "L6", node, "a value by itself")
        elif isinstance(node, ast.Raise):
            self.ask(node.exc is None or isinstance(node.exc, ast.Call), "L19", node, "an error not made on the spot")

    def look_at_walk(self, node):
        """What a loop walks isn't changed in it, as far as it goes by the same name."""
        walked = [node.iter]
        if called_name(node.iter) in ("enumerate", "zip", "reversed"):
            walked = node.iter.args
        elif isinstance(node.iter, ast.Call) and isinstance(node.iter.func, ast.Attribute):
            walked = [node.iter.func.value]
        names = [ast.unparse(item) for item in walked]
        for inner in node.body:
            for item in ast.walk(inner):
                changed = None
                if isinstance(item, ast.Subscript) and isinstance(item.ctx, ast.Store):
                    changed = item.value
                elif isinstance(item, ast.Attribute) and item.attr in CHANGES:
                    changed = item.value
                if changed is not None and ast.unparse(changed) in names:
                    self.fault("L23", item, "what a loop walks is changed in it")

    def look_at_top_read(self, node):
        """A list or dict of the file's top is only read where it stands."""
        parent = self.parents[node]
        read = isinstance(parent, ast.Subscript) and parent.value == node and isinstance(parent.ctx, ast.Load)
        walked = isinstance(parent, (ast.For, ast.comprehension)) and parent.iter == node
        called = called_name(parent) in ("len", "list", "dict", "sorted", "tuple", "enumerate", "zip", "reversed")
        got = isinstance(parent, ast.Attribute) and parent.attr in ("get", "items", "keys", "values", "index", "count")
        right = read or walked or called or got or isinstance(parent, ast.Compare)
        self.ask(right, "L15", node, f"{node.id} is handed on")

    def look_at_function(self, node):
        self.ask(node.end_lineno - node.lineno < 40, "L10", node, "more than 40 lines")
        self.ask(not node.decorator_list, "L4", node, "a decorator")
        self.ask(node.returns is None, "L21", node, "an annotation")
        self.look_at_parameters(node)
        if isinstance(self.parents[node], ast.ClassDef):
            self.look_at_method(node)
        else:
            self.look_at_name(node.name, node)
            self.ask(node.name not in BUILTINS, "L8", node, f"{node.name} is Python's own")

    def look_at_parameters(self, node):
        args = node.args
        plain = not (args.posonlyargs or args.kwonlyargs or args.vararg or args.kwarg)
        self.ask(plain, "L4", node, "no plain parameters")
        self.ask(all([is_plain(value) for value in args.defaults]), "L4", node, "no plain default")

    def look_at_method(self, node):
        if node.name not in DOUBLE:
            self.look_at_name(node.name, node)
            free = node.name in METHODS + ["add", "discard"] or not self.is_python_attribute(node.name)
            self.ask(free and node.name not in UNUSED_ATTRIBUTES, "L26", node, f"a method {node.name}")
        self.ask(node.name not in self.own.values, "L18", node, f"{node.name} is a method and a value")
        if node.name == "__init__":
            returns = [item for item in ast.walk(node) if isinstance(item, ast.Return) and item.value is not None]
            self.ask(not returns, "L28", node, "__init__ gives something back")

    def is_python_attribute(self, name):
        return any([hasattr(value, name) for value in ("", 0, [], (), {}, set(), b"")])

    def look_at_class(self, node):
        self.ask(self.parents[node] == self.tree, "L15", node, "a class that isn't at the top")
        self.ask(not node.decorator_list and not node.keywords and len(node.bases) <= 1, "L5", node, "no plain class")
        for base in node.bases:
            allowed = [name for name in ERRORS if name not in ("StopIteration", "AttributeError")]
            known = isinstance(base, ast.Name) and base.id in allowed + self.classes + self.imported
            self.ask(known, "L18", node, "such a base")
        names = []
        for item in node.body:
            self.ask(isinstance(item, (ast.FunctionDef, ast.Pass)), "L5", item, "no method in a class")
            names.append(getattr(item, "name", ""))
        self.ask(len(set(names)) == len(names), "L18", node, "a method twice")
        self.look_at_name(node.name, node)
        self.ask(node.name not in BUILTINS, "L8", node, f"{node.name} is Python's own")

    def look_at_handler(self, node):
        taken = node.type.elts if isinstance(node.type, ast.Tuple) else [node.type]
        for item in taken:
            named = isinstance(item, ast.Name) and item.id not in ("Exception", "TypeError")
            self.ask(named, "L19", node, "such an except")
        if node.name:
            self.look_at_bound(node.name, node)

    # Names

    def look_at_name(self, name, node):
        plain = re.fullmatch(r"[A-Za-z][A-Za-z0-9_]*", name) or name in ("__all__", "__version__")
        if name == "__name__":
            plain = self.name == "__main__.py"
        self.ask(plain, "L12", node, f"the name {name}")
        self.ask(name not in UNUSED, "L17", node, f"the name {name}")

    def look_at_bound(self, name, node):
        self.look_at_name(name, node)
        self.ask(name not in BUILTINS, "L15", node, f"{name} is Python's own")
        self.ask(name not in self.classes + self.imported, "L15", node, f"{name} is a class or an import")

    def look_at_read(self, node):
        self.look_at_name(node.id, node)
        if node.id in BUILTINS:
            printing = node.id == "print" and self.name == "__main__.py"
            self.ask(node.id in OWN_OF_PYTHON or printing, "L8", node, f"{node.id} isn't in the list")
            self.look_at_kept(node)
        if node.id in self.kept:
            self.look_at_top_read(node)

    def look_at_kept(self, node):
        """len and its like are called, or stand as a key, or as a class by isinstance and except."""
        parent = self.parents[node]
        if isinstance(parent, ast.Tuple):
            parent = self.parents[parent]
        called = isinstance(parent, ast.Call) and (parent.func == node or called_name(parent) == "isinstance")
        keyed = isinstance(parent, ast.keyword) and node.id in ("len", "int", "str", "abs", "sum", "min", "max", "tuple")
        method = isinstance(parent, ast.Attribute) and parent.attr == "__init__"
        named = isinstance(parent, (ast.ExceptHandler, ast.ClassDef))
        self.ask(called or keyed or named or method, "L22", node, f"{node.id} kept as a value")

    # Expressions

    def look_at_expression(self, node):
        self.ask(isinstance(node, EXPRESSIONS), "L7", node, "such an expression")
        if isinstance(node, ast.Name):
            if isinstance(node.ctx, ast.Store):
                self.look_at_bound(node.id, node)
            else:
                self.look_at_read(node)
        elif isinstance(node, ast.Constant):
            self.look_at_constant(node)
        elif isinstance(node, ast.BinOp):
            self.look_at_operation(node)
        elif isinstance(node, ast.Compare):
            self.look_at_comparison(node)
        elif isinstance(node, ast.ListComp):
            right = len(node.generators) == 1 and len(node.generators[0].ifs) <= 1 and not node.generators[0].is_async
            self.ask(right, "L7", node, "more than one for or if")
        elif isinstance(node, ast.FormattedValue):
            right = isinstance(node.value, ast.Name) and node.conversion in (-1, ord("r")) and not node.format_spec
            self.ask(right, "L7", node, "no plain name in an f-string")
        elif isinstance(node, ast.Attribute):
            self.look_at_attribute(node)
        elif isinstance(node, ast.Call):
            self.look_at_call(node)

    def look_at_constant(self, node):
        value = node.value
        self.ask(value is None or isinstance(value, (int, str)), "L7", node, "such a value")
        if isinstance(value, str):
            self.ask("%" not in value, "L27", node, "a % within a text")
        if isinstance(value, int):
            self.ask(abs(value) < 10 ** 900, "L27", node, "a number of more than 900 digits")

    def look_at_operation(self, node):
        self.ask(not isinstance(node.op, (ast.Div, ast.MatMult)), "L7", node, "such an operator")
        if isinstance(node.op, ast.Pow):
            written = isinstance(node.right, ast.Constant) and node.right.value in range(65)
            self.ask(written, "L27", node, "an exponent that isn't written from 0 to 64")

    def look_at_comparison(self, node):
        sides = [node.left] + node.comparators
        for place, op in enumerate(node.ops):
            if isinstance(op, (ast.Is, ast.IsNot)):
                beside = [is_truth_or_none(side) for side in sides[place:place + 2]]
                self.ask(any(beside), "L20", node, "is beside another thing")

    def look_at_attribute(self, node):
        parent = self.parents[node]
        self.ask(node.attr not in UNUSED_ATTRIBUTES, "L17", node, f"the attribute {node.attr}")
        if isinstance(node.ctx, ast.Store):
            self.look_at_name(node.attr, node)
            self.ask(node.attr not in NOT_VALUES, "L26", node, f"a value {node.attr}")
            self.ask(isinstance(node.value, ast.Name) and node.value.id not in self.classes + self.imported,
                     "L18", node, "a value given to no local")
        elif isinstance(parent, ast.Call) and parent.func == node:
            known = node.attr in METHODS or node.attr in self.own.methods or node.attr == "__init__"
            self.ask(known, "L25", node, f"the method {node.attr}")
        else:
            keyed = isinstance(parent, ast.keyword) and node.attr in self.own.methods
            system = self.name == "__main__.py" and node.attr in ("stdin", "stdout")
            self.ask(node.attr in self.own.values or keyed or system, "L25", node, f"the value {node.attr}")

    def look_at_call(self, node):
        name = called_name(node)
        method = node.func.attr if isinstance(node.func, ast.Attribute) else None
        if name in BUILTINS or method in METHODS:
            for keyword in node.keywords:
                self.ask(keyword.arg in KEYWORDS.get(name, []), "L22", node, f"the keyword {keyword.arg}")
        if name in WALKS or method in ("items", "keys", "values"):
            self.ask(self.is_walked(node), "L23", node, f"{name or method} kept")
        if name in ("set", "frozenset"):
            self.ask(self.is_set_on_the_spot(node), "L24", node, "a set kept")

    def is_walked(self, node):
        parent = self.parents[node]
        if isinstance(parent, (ast.For, ast.comprehension)):
            return parent.iter == node
        name = called_name(parent)
        if name in ("min", "max"):
            return parent.args == [node]
        if name == "zip":
            return node in parent.args
        if name in WALKERS:
            return parent.args[0] == node
        join = isinstance(parent, ast.Call) and isinstance(parent.func, ast.Attribute) and parent.func.attr == "join"
        return join and isinstance(parent.func.value, ast.Constant)

    def is_set_on_the_spot(self, node):
        parent = self.parents[node]
        while isinstance(parent, ast.BinOp):
            parent = self.parents[parent]
        if isinstance(parent, ast.Compare):
            return isinstance(parent.ops[0], (ast.In, ast.NotIn, ast.Eq, ast.NotEq))
        return called_name(parent) in ("sorted", "len") and not parent.keywords
