"""The small part of Python that the package keeps to, as far as a look at its files can tell.

Where the package has no need of something that a rule allows, what is looked for here is
the shorter rule without it: no annotation, no list or dict at a file's top, no error of
Python's own taken but those that may be taken anywhere. L9 is held by L2 and L8 (nothing
is there to read or print with), L11's sets by L24. Not looked for: how deep a function
calls itself (L11), and the finer points of L19 and L28, of which the package has no use.
"""

import ast
import builtins
import pathlib
import re
import unittest

PACKAGE = pathlib.Path(__file__).resolve().parent.parent / "warpwinding"

STATEMENTS = (ast.Assign, ast.AugAssign, ast.If, ast.While, ast.For, ast.Return, ast.Break, ast.Continue, ast.Pass,
              ast.Raise, ast.Try, ast.Expr, ast.FunctionDef, ast.ClassDef, ast.ImportFrom)
EXPRESSIONS = (ast.Constant, ast.List, ast.Tuple, ast.Dict, ast.BinOp, ast.UnaryOp, ast.Compare, ast.BoolOp, ast.IfExp,
               ast.Call, ast.Attribute, ast.Subscript, ast.Slice, ast.ListComp, ast.JoinedStr, ast.FormattedValue,
               ast.Lambda, ast.Name)
NOT_SIGNS = (ast.Div, ast.MatMult)
FUNCTIONS = set("""len range enumerate zip min max sum abs sorted reversed int str bool list tuple dict set frozenset
    isinstance ord repr any all divmod""".split())
ERRORS = set("""Exception ValueError TypeError KeyError IndexError LookupError ZeroDivisionError ArithmeticError
    OverflowError RuntimeError NotImplementedError AttributeError StopIteration""".split())
TAKEN_ANYWHERE = {"KeyError", "ZeroDivisionError", "StopIteration"}
KINDS = {"int", "str", "bool", "list", "tuple", "dict"}
KEYS = {"len", "int", "str", "abs", "sum", "min", "max", "tuple"}
KEYWORDS = {"sorted": {"key", "reverse"}, "min": {"key", "default"}, "max": {"key", "default"}, "sum": {"start"},
            "enumerate": {"start"}, "zip": {"strict"}}
METHODS = set("""append clear copy count endswith extend find get index insert isalnum isalpha isdigit islower isspace
    isupper items join keys ljust lower lstrip partition pop remove replace reverse rfind rjust rpartition rsplit
    rstrip setdefault split splitlines startswith strip update upper values zfill bit_length""".split())
CHANGES = set("append clear extend insert pop remove reverse setdefault update".split())
WALKED = {"zip", "enumerate", "reversed", "range"}
WALKED_METHODS = {"items", "keys", "values"}
WALKERS = {"list", "tuple", "dict", "sorted", "sum", "any", "all", "enumerate", "zip", "min", "max"}
NAMES_OF_PYTHON = {name for name in dir(builtins) if not name.startswith("_")}
PYTHONS_OWN = {name for kind in (str, int, list, dict, set, tuple, bytes, frozenset) for name in dir(kind)}
OWN_METHODS = METHODS | {"add", "discard"}
OWN_VALUES = set("count index title find get join lower upper split strip copy add".split())
SPECIAL = {"__init__"}
NOWHERE = set("register mro elements open input version_info with_traceback add_note format format_map".split())
FRAMES = re.compile(r"(f|tb|co|gi|cr|ag)_[a-z]+")
NOT_NAMES = set("""attrgetter breakpoint builtins compile copyright credits delattr dir eval exec exit gc getattr
    globals hasattr help id importlib license locals methodcaller os quit setattr super type vars sys
    __name__""".split())
WORDS = """type typing typing_extensions enum Enum IntEnum StrEnum Flag IntFlag Generic Protocol ABC ABCMeta namedtuple
    NamedTuple TypedDict TYPE_CHECKING abstractmethod""".split()
WORD = re.compile(r"\b(" + "|".join(WORDS) + r")\b|dataclass|overload|contextmanager")
FILES_NOT_CALLED = re.compile(r"test|tests|testing|test_.*|site|conftest|sitecustomize|usercustomize")


def plain_value(node):
    """A value that may be given to a name at a file's top, or be a default: here numbers, texts and tuples of them."""
    if isinstance(node, ast.UnaryOp) and isinstance(node.op, ast.USub):
        return isinstance(node.operand, ast.Constant)
    if isinstance(node, ast.Tuple):
        return all(plain_value(member) for member in node.elts)
    return isinstance(node, ast.Constant)


def called(node):
    """The name that a call calls, or an empty text."""
    return node.func.id if isinstance(node, ast.Call) and isinstance(node.func, ast.Name) else ""


class Look:
    """One file, and the rules that it breaks, each as (rule, row)."""

    def __init__(self, name, text):
        self.name = name
        self.text = text
        self.tree = ast.parse(text)
        self.found = []
        self.above = {}
        for node in ast.walk(self.tree):
            for child in ast.iter_child_nodes(node):
                self.above[child] = node
        self.classes = {node.name: node for node in self.tree.body if isinstance(node, ast.ClassDef)}
        self.imports = [(node, alias) for node in self.tree.body if isinstance(node, ast.ImportFrom)
                        for alias in node.names]

    def tell(self, rule, node):
        self.found.append((rule, getattr(node, "lineno", 0)))

    def hold(self, rule, node, kept):
        if not kept:
            self.tell(rule, node)

    def methods(self):
        return [node.name for kept in self.classes.values() for node in kept.body if isinstance(node, ast.FunctionDef)]

    def values(self):
        return [node.attr for node in ast.walk(self.tree)
                if isinstance(node, ast.Attribute) and isinstance(node.ctx, ast.Store)]

    def top_names(self):
        names = [alias.asname or alias.name for node, alias in self.imports]
        for node in self.tree.body:
            if isinstance(node, (ast.FunctionDef, ast.ClassDef)):
                names.append(node.name)
            elif isinstance(node, ast.Assign):
                names += [target.id for target in node.targets if isinstance(target, ast.Name)]
        return names

    def broken(self):
        self.look_at_text()
        self.look_at_top()
        for node in ast.walk(self.tree):
            if isinstance(node, ast.stmt):
                self.look_at_statement(node)
            elif isinstance(node, ast.expr):
                self.look_at_expression(node)
            elif isinstance(node, ast.ExceptHandler):
                self.look_at_handler(node)
            elif isinstance(node, ast.arg):
                self.hold("L21", node, node.annotation is None)
                self.look_at_local(node.arg, node)
        return sorted(self.found)

    def look_at_text(self):
        rows = self.text.split("\n")
        self.hold("L14", None, re.fullmatch(r"[ -~\n]*", self.text))
        self.hold("L17", None, not WORD.search(self.text))
        self.hold("L27", None, not re.search(r"\\[^nt\\'\"]", self.text))
        lambdas = [(node.lineno, ast.unparse(node.args)) for node in ast.walk(self.tree)
                   if isinstance(node, ast.Lambda)]
        self.hold("L13", None, len(lambdas) == len(set(lambdas)))
        self.hold("L10", None, len(rows) <= 401 and max(len(row) for row in rows) <= 120)
        self.hold("L14", None, re.fullmatch(r"([a-z][a-z0-9_]*|__init__)\.py", self.name))
        stem = self.name[:-3]
        self.hold("L14", None, not FILES_NOT_CALLED.fullmatch(stem) and stem not in NAMES_OF_PYTHON | set(WORDS))

    def look_at_top(self):
        names = self.top_names()
        self.hold("L15", None, len(names) == len(set(names)))
        behind_imports = False
        for place, node in enumerate(self.tree.body):
            if isinstance(node, ast.ImportFrom):
                self.hold("L2", node, not behind_imports)
                continue
            text = isinstance(node, ast.Expr) and isinstance(node.value, ast.Constant) and place == 0
            behind_imports = behind_imports or not text
            value = isinstance(node, ast.Assign) and plain_value(node.value)
            self.hold("L3", node, text or value or isinstance(node, (ast.FunctionDef, ast.ClassDef)))

    def look_at_statement(self, node):
        self.hold("L2" if isinstance(node, ast.Import) else "L6", node, isinstance(node, STATEMENTS))
        if isinstance(node, ast.Assign):
            self.hold("L6", node, len(node.targets) == 1 and not isinstance(node.targets[0], (ast.Tuple, ast.List)))
        elif isinstance(node, (ast.For, ast.While)):
            self.hold("L6", node, not node.orelse)
            if isinstance(node, ast.For):
                self.look_at_walk(node)
        elif isinstance(node, ast.Try):
            self.hold("L6", node, not node.finalbody)
        elif isinstance(node, ast.Expr):
            first = self.above[node].body[0] is node and not isinstance(self.above[node], (ast.If, ast.For, ast.While))
            text = isinstance(node.value, ast.Constant) and isinstance(node.value.value, str) and first
            self.hold("L6", node, isinstance(node.value, ast.Call) or text)
        elif isinstance(node, ast.Raise):
            self.hold("L19", node, isinstance(node.exc, ast.Call))
        elif isinstance(node, ast.ImportFrom):
            self.hold("L2", node, node.level == 0 and re.fullmatch(r"warpwinding\.[a-z][a-z0-9_]*", node.module or ""))
            self.hold("L2", node, node in self.tree.body and all(alias.name != "*" for alias in node.names))
        elif isinstance(node, ast.FunctionDef):
            self.look_at_function(node)
        elif isinstance(node, ast.ClassDef):
            self.look_at_class(node)

    def look_at_walk(self, node):
        """What a loop walks is not changed in it."""
        walked = {ast.unparse(part) for part in ast.walk(node.iter) if isinstance(part, (ast.Name, ast.Attribute))}
        if called(node.iter) in ("list", "tuple", "sorted", "range"):
            return
        for part in [inner for row in node.body for inner in ast.walk(row)]:
            if isinstance(part, ast.Call) and isinstance(part.func, ast.Attribute) and part.func.attr in CHANGES:
                self.hold("L23", part, ast.unparse(part.func.value) not in walked)
            if isinstance(part, ast.Subscript) and isinstance(part.ctx, ast.Store):
                self.hold("L23", part, ast.unparse(part.value) not in walked)

    def look_at_function(self, node):
        given = node.args
        self.hold("L4", node, not (given.vararg or given.kwarg or given.kwonlyargs or given.posonlyargs))
        self.hold("L4", node, not node.decorator_list and all(plain_value(value) for value in given.defaults))
        self.hold("L21", node, node.returns is None)
        self.hold("L10", node, node.end_lineno - node.lineno + 1 <= 40)
        method = isinstance(self.above[node], ast.ClassDef)
        if not method or node.name not in SPECIAL:
            self.look_at_name(node.name, node)
        if not method:
            self.hold("L15", node, node.name not in NAMES_OF_PYTHON)
        elif node.name in SPECIAL:
            self.hold("L28", node, not any(isinstance(part, ast.Return) and part.value for part in ast.walk(node)))
        else:
            self.hold("L26", node, node.name not in PYTHONS_OWN or node.name in OWN_METHODS)

    def look_at_class(self, node):
        self.look_at_name(node.name, node)
        self.hold("L15", node, node in self.tree.body and node.name not in NAMES_OF_PYTHON)
        self.hold("L5", node, not node.decorator_list and not node.keywords and len(node.bases) <= 1)
        for place, part in enumerate(node.body):
            text = place == 0 and isinstance(part, ast.Expr) and isinstance(part.value, ast.Constant)
            self.hold("L5", part, text or isinstance(part, (ast.FunctionDef, ast.Pass)))
        names = [part.name for part in node.body if isinstance(part, ast.FunctionDef)]
        self.hold("L18", node, len(names) == len(set(names)))
        bases = [base.id if isinstance(base, ast.Name) else "" for base in node.bases]
        own = set(self.classes) | {alias.name for row, alias in self.imports}
        self.hold("L5", node, set(bases) <= ERRORS | own)
        self.hold("L18", node, not set(bases) & {"StopIteration", "AttributeError"})

    def look_at_handler(self, node):
        kinds = node.type.elts if isinstance(node.type, ast.Tuple) else [node.type]
        names = {kind.id for kind in kinds if isinstance(kind, ast.Name)}
        own = set(self.classes) | {alias.name for row, alias in self.imports}
        self.hold("L19", node, len(names) == len(kinds) and names <= TAKEN_ANYWHERE | own)
        if node.name:
            self.look_at_local(node.name, node)

    def look_at_name(self, name, node):
        self.hold("L12", node, re.fullmatch(r"[A-Za-z][A-Za-z0-9_]*", name))
        self.hold("L17", node, name not in NOWHERE | NOT_NAMES and not FRAMES.fullmatch(name))

    def look_at_local(self, name, node):
        self.look_at_name(name, node)
        taken = set(self.classes) | {alias.asname or alias.name for row, alias in self.imports}
        self.hold("L15", node, name not in taken | NAMES_OF_PYTHON)

    def look_at_expression(self, node):
        above = self.above[node]
        self.hold("L7", node, isinstance(node, EXPRESSIONS))
        if isinstance(node, ast.Constant):
            self.look_at_constant(node)
        elif isinstance(node, ast.BinOp):
            self.hold("L7", node, not isinstance(node.op, NOT_SIGNS))
            if isinstance(node.op, ast.Pow):
                power = node.right.value if isinstance(node.right, ast.Constant) else -1
                self.hold("L27", node, power in range(65))
        elif isinstance(node, ast.Compare):
            if any(isinstance(sign, (ast.Is, ast.IsNot)) for sign in node.ops):
                sides = [node.left] + node.comparators
                plain = [isinstance(side, ast.Constant) and side.value in (None, True, False) for side in sides]
                self.hold("L20", node, any(plain))
        elif isinstance(node, ast.ListComp):
            self.hold("L7", node, len(node.generators) == 1 and len(node.generators[0].ifs) <= 1)
        elif isinstance(node, ast.FormattedValue):
            plain = isinstance(node.value, ast.Name) and node.conversion in (-1, 114) and node.format_spec is None
            self.hold("L7", node, plain)
        elif isinstance(node, ast.Call):
            self.look_at_call(node, above)
        elif isinstance(node, ast.Name):
            self.look_at_used_name(node, above)
        elif isinstance(node, ast.Attribute):
            self.look_at_attribute(node, above)

    def look_at_constant(self, node):
        self.hold("L7", node, node.value.__class__ in (int, str, bool, type(None)))
        if isinstance(node.value, str):
            self.hold("L27", node, "%" not in node.value and re.fullmatch(r"[ -~\n\t]*", node.value))
        elif isinstance(node.value, int):
            self.hold("L27", node, node.value < 10 ** 900)

    def walked_at_once(self, node, above):
        if isinstance(above, (ast.For, ast.comprehension)):
            return above.iter is node
        if called(above) in WALKERS:
            return above.args[0] is node or called(above) == "zip"
        joins = isinstance(above, ast.Call) and isinstance(above.func, ast.Attribute) and above.func.attr == "join"
        return joins and isinstance(above.func.value, ast.Constant)

    def look_at_call(self, node, above):
        name = called(node)
        method = node.func.attr if isinstance(node.func, ast.Attribute) else ""
        if name in WALKED or method in WALKED_METHODS:
            self.hold("L23", node, self.walked_at_once(node, above))
        if name in FUNCTIONS | ERRORS or method in METHODS:
            self.hold("L22", node, {word.arg for word in node.keywords} <= KEYWORDS.get(name, set()))
        if name == "isinstance":
            kinds = node.args[1].elts if isinstance(node.args[1], ast.Tuple) else [node.args[1]]
            own = set(self.classes) | {alias.name for row, alias in self.imports}
            self.hold("L22", node, {ast.unparse(kind) for kind in kinds} <= KINDS | ERRORS | own)
        if name in ("set", "frozenset"):
            together = node
            while isinstance(self.above[together], ast.BinOp):
                together = self.above[together]
            outer = self.above[together]
            asked = isinstance(outer, ast.Compare) and isinstance(outer.ops[0], (ast.In, ast.NotIn, ast.Eq, ast.NotEq))
            self.hold("L24", node, asked or (called(outer) in ("sorted", "len") and not outer.keywords))

    def look_at_used_name(self, node, above):
        if isinstance(node.ctx, ast.Store):
            if isinstance(above, ast.Assign) and above in self.tree.body:
                self.look_at_name(node.id, node)
                self.hold("L15", node, node.id not in NAMES_OF_PYTHON)
            else:
                self.look_at_local(node.id, node)
            return
        self.look_at_name(node.id, node)
        self.hold("L8", node, node.id not in NAMES_OF_PYTHON - FUNCTIONS - ERRORS)
        if node.id in FUNCTIONS:
            key = isinstance(above, ast.keyword) and above.arg == "key" and node.id in KEYS
            self.hold("L22", node, self.is_called(node, above) or key or self.is_kind(node, above))
        classes = set(self.classes) | ERRORS | {alias.name for row, alias in self.imports if alias.name[:1].isupper()
                                                and not alias.name.isupper()}
        if node.id in classes:
            base = isinstance(above, (ast.ClassDef, ast.ExceptHandler))
            taken = isinstance(above, ast.Tuple) and isinstance(self.above[above], ast.ExceptHandler)
            init = isinstance(above, ast.Attribute) and above.attr == "__init__"
            kept = self.is_called(node, above) or base or taken or init or self.is_kind(node, above)
            self.hold("L18", node, kept)

    def is_called(self, node, above):
        return isinstance(above, ast.Call) and above.func is node

    def is_kind(self, node, above):
        if isinstance(above, ast.Tuple):
            above = self.above[above]
        return called(above) == "isinstance"

    def look_at_attribute(self, node, above):
        name = node.attr
        self.hold("L17", node, name not in NOWHERE and not FRAMES.fullmatch(name))
        self.hold("L12", node, not name.startswith("_") or name in SPECIAL)
        if isinstance(node.ctx, ast.Store):
            self.hold("L26", node, name not in PYTHONS_OWN | {"args", "sort", "encode"} or name in OWN_VALUES)
            self.hold("L18", node, isinstance(node.value, ast.Name) and node.value.id not in self.top_names())
        elif self.is_called(node, above):
            self.hold("L25", node, name not in PYTHONS_OWN or name in OWN_METHODS | SPECIAL)
        elif name in METHODS:
            self.hold("L25", node, name in OWN_VALUES)


def broken(texts):
    """The rules that some files (name: text) break, each as (file, rule, row)."""
    looks = {name: Look(name, text) for name, text in texts.items()}
    found = [(name, rule, row) for name, look in looks.items() for rule, row in look.broken()]
    methods = {method for look in looks.values() for method in look.methods()}
    found += [(name, "L18", 0) for name, look in looks.items() if methods & set(look.values())]
    drawn = {name: set() for name in looks}
    for name, look in looks.items():
        for node, alias in look.imports:
            source = (node.module or "").partition(".")[2] + ".py"
            own = [part for part in looks[source].tree.body if not isinstance(part, ast.ImportFrom)] \
                if source in looks else []
            defined = [part.name if hasattr(part, "name") else part.targets[0].id for part in own
                       if isinstance(part, (ast.FunctionDef, ast.ClassDef, ast.Assign))]
            if alias.name not in defined:
                found.append((name, "L16", node.lineno))
            drawn[name].add(source)
    for start in drawn:
        reached = set()
        ahead = set(drawn[start])
        while ahead - reached:
            reached |= ahead
            ahead = {further for name in reached for further in drawn.get(name, ())}
        if start in reached:
            found.append((start, "L16", 0))
    if "__init__.py" in looks:
        taken = {name[:-3] for name in looks} & set(looks["__init__.py"].top_names())
        found += [("__init__.py", "L16", 0)] * len(taken)
    return found


# A rule, and what breaks it; each stands in a file of its own, behind nothing else.
BREAKS = [
    ("L2", "import os\n"),
    ("L2", "from .plans import best_way\n"),
    ("L2", "from random import choice\n"),
    ("L2", "def f():\n    from warpwinding.plans import best_way\n    return best_way\n"),
    ("L2", "A = 1\nfrom warpwinding.plans import best_way\n"),
    ("L3", "A = len('a')\n"),
    ("L3", "if True:\n    A = 1\n"),
    ("L3", "A = 1\nA.b()\n"),
    ("L4", "def f(*xs):\n    return xs\n"),
    ("L4", "def f(**xs):\n    return xs\n"),
    ("L4", "def f(*, x):\n    return x\n"),
    ("L4", "def g(x):\n    return x\n\n\n@g\ndef f(x):\n    return x\n"),
    ("L5", "class A:\n    b = 1\n"),
    ("L5", "class A(b.C):\n    pass\n"),
    ("L6", "def f(x):\n    assert x\n"),
    ("L6", "def f(x):\n    del x\n"),
    ("L6", "def f(x):\n    a = b = x\n    return a + b\n"),
    ("L6", "def f(x):\n    for a in x:\n        pass\n    else:\n        return 1\n"),
    ("L6", "def f(x):\n    try:\n        g(x)\n    finally:\n        g(x)\n"),
    ("L6", "def f(x):\n    with x:\n        pass\n"),
    ("L6", "def f(x):\n    x + 1\n"),
    ("L7", "def f(x):\n    return x / 2\n"),
    ("L7", "def f(x):\n    return 0.5\n"),
    ("L7", "def f(x):\n    return b'a'\n"),
    ("L7", "def f(x):\n    return {a for a in x}\n"),
    ("L7", "def f(x):\n    return {a: a for a in x}\n"),
    ("L7", "def f(x):\n    return sum(a for a in x)\n"),
    ("L7", "def f(x):\n    return [a for b in x for a in b]\n"),
    ("L7", "def f(x):\n    return (y := x)\n"),
    ("L7", "def f(x):\n    return [*x]\n"),
    ("L7", "def f(x):\n    return f'{x + 1}'\n"),
    ("L7", "def f(x):\n    yield x\n"),
    ("L8", "def f(x):\n    print(x)\n"),
    ("L8", "def f(x):\n    return list(map(g, x))\n"),
    ("L10", "def f(x):\n" + "    g(x)\n" * 40),
    ("L10", "A = 1\n" * 401),
    ("L10", "A = 1  # " + "a" * 120 + "\n"),
    ("L12", "def _f(x):\n    return x\n"),
    ("L12", "def f(x):\n    for _ in x:\n        pass\n"),
    ("L12", "def f(x):\n    return x.__class__\n"),
    ("L13", "def f(x):\n    return g(lambda y: y, lambda y: x)\n"),
    ("L14", "A = 'ä'\n"),
    ("L14", "A = 1\t\n"),
    ("L15", "A = 1\nA = 2\n"),
    ("L15", "def f(min):\n    return min\n"),
    ("L15", "def f(x):\n    map = x\n    return map\n"),
    ("L15", "class A:\n    pass\n\n\ndef f(A):\n    return A\n"),
    ("L15", "from warpwinding.plans import best_way\n\n\ndef f(best_way):\n    return best_way\n"),
    ("L17", "def f(x):\n    return eval(x)\n"),
    ("L17", "def f(x):\n    return x.register()\n"),
    ("L17", "# the type of it\n"),
    ("L17", "# a dataclasses\n"),
    ("L18", "class A:\n    pass\n\n\ndef f(x):\n    return [A]\n"),
    ("L18", "class A:\n    pass\n\n\ndef f(x):\n    A.b = x\n"),
    ("L18", "class A:\n    def b(self):\n        return 1\n\n    def c(self):\n        self.b = 1\n"),
    ("L18", "class A(StopIteration):\n    pass\n"),
    ("L19", "def f(x):\n    try:\n        g(x)\n    except Exception:\n        return 1\n"),
    ("L19", "def f(x):\n    try:\n        g(x)\n    except TypeError:\n        return 1\n"),
    ("L19", "def f(x):\n    try:\n        g(x)\n    except:\n        return 1\n"),
    ("L19", "def f(x):\n    raise ValueError\n"),
    ("L20", "def f(x, y):\n    return x is y\n"),
    ("L21", "def f(x: int):\n    return x\n"),
    ("L21", "def f(x) -> int:\n    return x\n"),
    ("L22", "def f(x):\n    return g(len)\n"),
    ("L22", "def f(x):\n    return int(x, base=8)\n"),
    ("L23", "def f(x):\n    y = range(x)\n    return y\n"),
    ("L23", "def f(x):\n    y = x.items()\n    return y\n"),
    ("L23", "def f(x):\n    for y in x:\n        x.append(y)\n"),
    ("L23", "def f(x):\n    for y, z in x.items():\n        x[y] = z + 1\n"),
    ("L24", "def f(x):\n    y = set(x)\n    return y\n"),
    ("L24", "def f(x):\n    for y in set(x):\n        g(y)\n"),
    ("L25", "def f(x):\n    x.sort()\n"),
    ("L25", "def f(x):\n    return g(x.append)\n"),
    ("L26", "class A:\n    def b(self):\n        self.items = 1\n"),
    ("L26", "class A:\n    def sort(self):\n        return 1\n"),
    ("L27", "def f(x):\n    return 2 ** x\n"),
    ("L27", "A = '5 %'\n"),
    ("L27", "A = '\\x41'\n"),
    ("L28", "class A:\n    def __init__(self):\n        return None\n"),
]

KEPT = '''"""What may stand in a file."""

from warpwinding.other import Known, known

ONE = 1
SOME = (1, -2, (3, "a"))


class Refused(ValueError):
    """An error of its own."""


class Pair:
    def __init__(self, first, count):
        self.first = first
        self.count = count

    def both(self):
        return (self.first, self.count)


def walk(xs, most=3):
    found = {}
    for place, x in enumerate(xs):
        if x is None or not isinstance(x, int):
            raise Refused(f"not {x!r} at {place}")
        found[x] = found.get(x, 0) + 2 ** 8 // most
    for key, many in found.items():
        known(key, Known(many))
    try:
        return found[ONE]
    except KeyError:
        return len(set(xs)) + max([x for x in xs if x in set(SOME[:2])], default=0)


def least(pairs):
    return sorted(pairs, key=lambda pair: pair.both())[0] if len(pairs) > 0 else Pair(0, 0)
'''


class Language(unittest.TestCase):
    def test_only_files_of_python_lie_in_the_package(self):
        files = [path for path in PACKAGE.rglob("*") if path.name != "__pycache__" and path.suffix != ".pyc"]
        self.assertTrue((PACKAGE / "__init__.py").is_file())
        for path in files:
            self.assertTrue(path.is_file() and path.suffix == ".py" and path.parent == PACKAGE, path)

    def test_the_package_breaks_no_rule(self):
        texts = {path.name: path.read_bytes().decode("utf-8") for path in PACKAGE.glob("*.py")}
        self.assertEqual(broken(texts), [])

    def test_what_breaks_a_rule_is_found(self):
        for rule, text in BREAKS:
            found = broken({"some.py": text, "plans.py": "def best_way():\n    pass\n"})
            with self.subTest(rule=rule, text=text):
                self.assertIn(rule, [told[1] for told in found])

    def test_what_keeps_the_rules_is_let_be(self):
        other = "class Known:\n    pass\n\n\ndef known(key, many):\n    return key\n"
        self.assertEqual(broken({"some.py": KEPT, "other.py": other}), [])

    def test_names_of_files(self):
        for name in ("Some.py", "_some.py", "tests.py", "test_some.py", "site.py", "len.py", "enum.py", "a-b.py"):
            self.assertIn((name, "L14", 0), broken({name: "A = 1\n"}))

    def test_files_that_draw_from_one_another(self):
        ring = {"a.py": "from warpwinding.b import B\n\nA = 1\n", "b.py": "from warpwinding.c import C\n\nB = 1\n",
                "c.py": "from warpwinding.a import A\n\nC = 1\n"}
        self.assertEqual(broken(ring), [(name, "L16", 0) for name in sorted(ring)])
        self.assertEqual(broken({**ring, "c.py": "C = 1\n"}), [])

    def test_names_are_drawn_from_the_file_that_defines_them(self):
        texts = {"a.py": "A = 1\n", "b.py": "from warpwinding.a import A\n", "c.py": "from warpwinding.b import A\n",
                 "__init__.py": "a = 1\n"}
        self.assertEqual(broken(texts), [("c.py", "L16", 1), ("__init__.py", "L16", 0)])


if __name__ == "__main__":
    unittest.main()
