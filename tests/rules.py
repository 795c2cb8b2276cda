"""Checks the files of the package against the subset of Python that it is written in, as far as a tree shows it."""

import ast
import builtins
import re
from pathlib import Path

PACKAGE = Path(__file__).resolve().parent.parent / "highestsky"

LIBRARY = {
    "heapq": {"heappush", "heappop", "heapify", "heapreplace", "heappushpop"},
    "math": {"gcd", "lcm", "isqrt", "comb", "perm", "factorial"},
    "itertools": {"product", "combinations", "permutations", "chain", "accumulate", "pairwise", "islice",
                  "zip_longest"},
    "collections": {"defaultdict", "deque"},
}
BUILTINS = set(
    "len range enumerate zip min max sum abs sorted reversed int str bool list tuple dict set isinstance ord repr any "
    "all divmod pow getattr hasattr setattr iter next map type Exception ValueError TypeError KeyError IndexError "
    "LookupError ZeroDivisionError ArithmeticError OverflowError RuntimeError NotImplementedError AttributeError "
    "StopIteration NotImplemented property staticmethod classmethod super".split())
METHODS = set(
    "append clear copy count endswith extend find get index insert isalnum isalpha isdigit islower isspace isupper "
    "items join keys ljust lower lstrip partition pop remove replace reverse rfind rjust rpartition rsplit rstrip "
    "setdefault split splitlines startswith strip update upper values zfill bit_length title capitalize swapcase "
    "casefold center expandtabs removeprefix removesuffix rindex isascii isdecimal isnumeric istitle isidentifier "
    "isprintable add discard appendleft popleft".split())
OPERATORS = {f"__{word}__" for word in (
    "init eq repr str len enter exit call iter lt le gt ge ne add sub mul floordiv mod pow and or xor lshift rshift "
    "radd rsub rmul rfloordiv rmod rand ror rxor rlshift rrshift iadd isub imul ifloordiv imod ipow iand ior ixor "
    "ilshift irshift neg pos invert abs bool contains getitem setitem").split()}
NO_ATTRIBUTES = set(
    "items keys values pop update append clear extend insert remove reverse setdefault sort args encode decode hex "
    "fromhex format format_map mro as_integer_ratio bit_count conjugate from_bytes is_integer to_bytes".split())
NOWHERE = set("register mro elements open input law version_info with_traceback add_note".split())
NO_VARIABLES = set(
    "attrgetter breakpoint builtins compile copyright credits delattr dir eval exec exit gc getattr globals hasattr "
    "help id importlib license locals methodcaller os quit setattr super type vars sys".split())
NO_WORDS = re.compile(
    r"\b(type|typing|typing_extensions|enum|Enum|IntEnum|StrEnum|Flag|IntFlag|Generic|Protocol|ABC|ABCMeta|namedtuple|"
    r"NamedTuple|TypedDict|TYPE_CHECKING|abstractmethod)\b|dataclass|overload|contextmanager")
BARRED_NAMES = re.compile(
    r"_wall|_pe_|_dcw_|_enum_|_cm_|_twin_re_|_lay_|_law_|_stub_|_sre|_WallAttr|"
    r"(_cold|_tuplegetter|_outside|_record|_written_out|_member_names)[0-9_]*$")
ITERATED_AT_ONCE = {"zip", "enumerate", "reversed", "map"}
TAKERS = {"list", "tuple", "dict", "sorted", "sum", "any", "all", "enumerate", "zip", "min", "max"}
LISTED_FIRST = {"any", "all", "min", "max", "sum", "sorted"}
RETURNED_BY = {"__len__": {"len"}, "__repr__": {"str", "repr"}, "__str__": {"str", "repr"}}
FUNCTIONS = (ast.FunctionDef, ast.AsyncFunctionDef)


def files():
    return sorted(PACKAGE.glob("**/*.py"))


def plain(node):
    """Whether a node is a value that may stand at module level or as a default."""
    if isinstance(node, ast.Constant):
        return isinstance(node.value, (int, str, bytes, type(None)))
    if isinstance(node, ast.UnaryOp):
        return isinstance(node.op, ast.USub) and plain(node.operand)
    if isinstance(node, (ast.Tuple, ast.List)):
        return all(plain(item) for item in node.elts)
    if isinstance(node, ast.Dict):
        return all(key is not None and plain(key) for key in node.keys) and all(plain(item) for item in node.values)
    return isinstance(node, ast.Name)


class Package:
    """What all files together define."""

    def __init__(self):
        self.trees = {path: ast.parse(path.read_text(encoding="ascii")) for path in files()}
        self.methods, self.attributes, self.defined = set(), set(), {}
        for path, tree in self.trees.items():
            names = {node.name for node in tree.body if isinstance(node, (*FUNCTIONS, ast.ClassDef))}
            names |= {target.id for node in tree.body if isinstance(node, ast.Assign) for target in node.targets}
            self.defined[f"highestsky.{path.stem}"] = names
            for node in ast.walk(tree):
                if isinstance(node, ast.ClassDef):
                    self.methods |= {part.name for part in node.body if isinstance(part, FUNCTIONS)}
                if isinstance(node, ast.Attribute) and isinstance(node.ctx, ast.Store):
                    self.attributes.add(node.attr)
                if isinstance(node, ast.ClassDef):
                    self.attributes |= {part.targets[0].id for part in node.body if isinstance(part, ast.Assign)}


class File:
    """The faults of one file, as a list of strings."""

    def __init__(self, package, path):
        self.package, self.path, self.tree = package, path, package.trees[path]
        self.text = path.read_text(encoding="ascii")
        self.faults = []
        self.parents = {child: node for node in ast.walk(self.tree) for child in ast.iter_child_nodes(node)}
        self.imported = {name.name for node in self.tree.body if isinstance(node, ast.ImportFrom)
                         for name in node.names}
        self.classes = {node.name for node in self.tree.body if isinstance(node, ast.ClassDef)}
        self.docstrings = {node.body[0].value for node in ast.walk(self.tree)
                           if isinstance(node, (ast.Module, ast.ClassDef, *FUNCTIONS)) and ast.get_docstring(node)}

    def fault(self, node, rule):
        self.faults.append(f"{self.path.name}:{getattr(node, 'lineno', 0)}: {rule}")

    def check(self):
        self.check_text()
        self.check_module()
        for node in ast.walk(self.tree):
            self.check_node(node)
        return self.faults

    def check_text(self):
        if len(self.text.splitlines()) > 399:
            self.fault(self.tree, "L10 more than 399 lines")
        for at, line in enumerate(self.text.split("\n")):
            if len(line) > 120 or not all(" " <= letter <= "~" for letter in line):
                self.fault(self.tree, f"L10 L14 line {at + 1}")
        for word in ["(type)", "Meta", "metaclass=", "_wall", "_WallAttr"]:
            if word in self.text:
                self.fault(self.tree, f"L17 {word}")

    def check_module(self):
        allowed_imports = True
        names = []
        for at, node in enumerate(self.tree.body):
            if at == 0 and isinstance(node, ast.Expr) and isinstance(node.value, ast.Constant):
                continue
            if isinstance(node, ast.ImportFrom):
                self.check_import(node, allowed_imports)
                names += [name.name for name in node.names]
                continue
            allowed_imports = False
            if isinstance(node, ast.Assign):
                if len(node.targets) != 1 or not isinstance(node.targets[0], ast.Name) or not plain(node.value):
                    self.fault(node, "L3 no plain value")
                names += [target.id for target in node.targets if isinstance(target, ast.Name)]
            elif isinstance(node, (ast.FunctionDef, ast.ClassDef)):
                names.append(node.name)
                if node.decorator_list:
                    self.fault(node, "L4 L5 decorator")
            else:
                self.fault(node, "L3 statement")
        if len(names) != len(set(names)):
            self.fault(self.tree, "L15 a name is bound twice")

    def check_import(self, node, allowed):
        known = {**self.package.defined, **LIBRARY}.get(node.module)
        if not allowed or node.level or known is None:
            self.fault(node, "L2 L16 import")
            return
        for name in node.names:
            if name.asname or name.name not in known:
                self.fault(node, f"L2 L16 import of {name.name}")

    def check_node(self, node):
        banned = (ast.AsyncFunctionDef, ast.AsyncFor, ast.AsyncWith, ast.Await, ast.Import, ast.Div, ast.Global)
        if isinstance(node, banned):
            self.fault(node, f"L2 L6 L7 {type(node).__name__}")
        if isinstance(node, ast.ImportFrom) and node not in self.tree.body:
            self.fault(node, "L2 import within")
        for kind in [ast.FunctionDef, ast.ClassDef, ast.Name, ast.arg, ast.Attribute, ast.Constant, ast.Call,
                     ast.Compare, ast.Raise, ast.ExceptHandler, ast.GeneratorExp, ast.Set, ast.SetComp, ast.AnnAssign,
                     ast.Try]:
            if isinstance(node, kind):
                getattr(self, "check_" + kind.__name__.lower())(node)

    def check_name_word(self, node, word):
        dunder = word.startswith("__")
        if not re.fullmatch(r"_?[A-Za-z][A-Za-z0-9_]*|_", word) and not dunder:
            self.fault(node, f"L12 name {word}")
        if word in NOWHERE or BARRED_NAMES.match(word):
            self.fault(node, f"L12 L17 name {word}")

    def check_variable(self, node, word):
        self.check_name_word(node, word)
        if word in NO_VARIABLES or hasattr(builtins, word):
            self.fault(node, f"L15 L17 name {word}")
        if word in self.imported | self.classes:
            self.fault(node, f"L15 {word} is an import or a class")

    def check_functiondef(self, node):
        if node.end_lineno - node.lineno + 1 > 40:
            self.fault(node, "L10 more than 40 lines")
        within = self.parents[node]
        self.check_name_word(node, node.name)
        for word in node.decorator_list:
            setter = isinstance(word, ast.Attribute) and word.attr == "setter"
            if not setter and getattr(word, "id", "") not in ("property", "staticmethod", "classmethod"):
                self.fault(node, "L4 decorator")
        if isinstance(within, ast.ClassDef):
            if node.name.startswith("__") and node.name not in OPERATORS:
                self.fault(node, f"L5 {node.name}")
        else:
            self.check_function_name(node)
        for value in [*node.args.defaults, *node.args.kw_defaults]:
            if value is not None and not plain(value):
                self.fault(node, "L4 default")
        if node.name in RETURNED_BY:
            self.check_returns(node)

    def check_function_name(self, node):
        if node.name.startswith("__") or node.name in NO_VARIABLES or hasattr(builtins, node.name):
            self.fault(node, f"L15 L17 L28 function {node.name}")

    def check_returns(self, node):
        if not isinstance(node.body[-1], ast.Return):
            self.fault(node, "L28 last statement")
        for part in ast.walk(node):
            if isinstance(part, ast.Return):
                value = part.value
                called = isinstance(value, ast.Call) and getattr(value.func, "id", "") in RETURNED_BY[node.name]
                if not called and not isinstance(value, (ast.Constant, ast.JoinedStr)):
                    self.fault(part, "L28 return")

    def check_classdef(self, node):
        if node not in self.tree.body or node.keywords:
            self.fault(node, "L15 class")
        self.check_name_word(node, node.name)
        names, properties = [], []
        for at, part in enumerate(node.body):
            if isinstance(part, ast.FunctionDef):
                setter = [word for word in part.decorator_list if isinstance(word, ast.Attribute)]
                if part.decorator_list and getattr(part.decorator_list[0], "id", "") == "property":
                    properties.append(part.name)
                if not setter:
                    names.append(part.name)
            elif isinstance(part, ast.Assign):
                names.append(part.targets[0].id)
            elif at or not isinstance(part, ast.Expr):
                self.fault(part, "L5 statement in a class")
        stored = {part.attr for part in ast.walk(node) if isinstance(part, ast.Attribute)
                  and isinstance(part.ctx, ast.Store) and getattr(part.value, "id", "") == "self"}
        if len(names) != len(set(names)) or stored & (set(names) - set(properties)):
            self.fault(node, "L18 two meanings of one name")
        if "__getitem__" in names and "__iter__" not in names:
            self.fault(node, "L5 __getitem__ without __iter__")

    def check_name(self, node):
        if isinstance(node.ctx, ast.Store):
            within = self.parents[node]
            if isinstance(within, ast.Assign) and (within in self.tree.body
                                                   or isinstance(self.parents[within], ast.ClassDef)):
                self.check_name_word(node, node.id)
            else:
                self.check_variable(node, node.id)
        elif hasattr(builtins, node.id) and node.id not in BUILTINS:
            self.fault(node, f"L8 builtin {node.id}")
        if isinstance(node.ctx, ast.Load) and node.id == "_":
            self.fault(node, "L12 _ is read")

    def check_arg(self, node):
        self.check_variable(node, node.arg)

    def check_attribute(self, node):
        self.check_name_word(node, node.attr)
        if isinstance(node.ctx, ast.Store) and node.attr in NO_ATTRIBUTES:
            self.fault(node, f"L26 attribute {node.attr}")
        if node.attr.startswith("__") and node.attr not in ("__init__", "__class__", "__name__"):
            self.fault(node, f"L8 {node.attr}")
        known = self.package.methods | self.package.attributes | METHODS
        if node.attr not in known and not node.attr.startswith("__") and node.attr != "setter":
            self.fault(node, f"L18 L25 unknown attribute {node.attr}")

    def check_constant(self, node):
        if isinstance(node.value, float):
            self.fault(node, "L7 float")
        if isinstance(node.value, (str, bytes)) and node not in self.docstrings:
            text = str(node.value)
            if "%" in text or NO_WORDS.search(text) or (text.startswith("__") and text.endswith("__")):
                self.fault(node, "L17 L27 string")

    def check_call(self, node):
        word = getattr(node.func, "id", None)
        if isinstance(node.func, ast.Attribute) and node.func.attr in METHODS - self.package.methods and node.keywords:
            self.fault(node, "L25 keyword")
        if word in BUILTINS and hasattr(builtins, word):
            allowed = {"sorted": {"key", "reverse"}, "min": {"key", "default"}, "max": {"key", "default"},
                       "sum": {"start"}, "enumerate": {"start"}, "zip": {"strict"}}.get(word, set())
            if any(keyword.arg not in allowed for keyword in node.keywords):
                self.fault(node, f"L22 keyword of {word}")
        if word in ITERATED_AT_ONCE and not self.is_iterated(node):
            self.fault(node, f"L23 {word} is kept")
        if isinstance(node.func, ast.Attribute) and node.func.attr in ("items", "keys", "values"):
            if not self.is_iterated(node):
                self.fault(node, f"L23 {node.func.attr} is kept")
        if word in ("set", "frozenset"):
            self.check_set(node)
        if word == "super":
            self.check_super(node)
        if isinstance(node.func, ast.Attribute) and getattr(node.func.value, "id", "") in self.classes | self.imported:
            self.check_off_class(node)

    def check_super(self, node):
        """`super()` stands directly in the rows of a method, and calls a method or, in __init__, __init__."""
        method = self.parents.get(self.parents[node])
        called = isinstance(self.parents[node], ast.Attribute) and isinstance(method, ast.Call)
        within = method
        while within is not None and not isinstance(within, (*FUNCTIONS, ast.Lambda, ast.ListComp, ast.DictComp)):
            within = self.parents.get(within)
        plainly = isinstance(within, FUNCTIONS) and isinstance(self.parents[within], ast.ClassDef)
        if node.args or not called or not plainly or within.decorator_list:
            self.fault(node, "L5 super")
        elif self.parents[node].attr.startswith("__") and not within.name == self.parents[node].attr == "__init__":
            self.fault(node, "L5 super of a double-underscore method")

    def check_off_class(self, node):
        """Only static methods are called off a class, so that a name may be a method here and an attribute there."""
        static = {part.name for tree in self.package.trees.values() for kind in tree.body
                  if isinstance(kind, ast.ClassDef) for part in kind.body if isinstance(part, ast.FunctionDef)
                  and [getattr(word, "id", "") for word in part.decorator_list] == ["staticmethod"]}
        if node.func.attr not in static:
            self.fault(node, "L18 method off a class")

    def check_try(self, node):
        for part in node.finalbody:
            kept = isinstance(part, ast.Assign) and isinstance(part.value, (ast.Constant, ast.Name, ast.Attribute))
            if not kept or not all(isinstance(target, (ast.Name, ast.Attribute)) for target in part.targets):
                self.fault(part, "L6 finally")

    def is_iterated(self, node):
        within = self.parents[node]
        if isinstance(within, (ast.For, ast.comprehension)):
            return within.iter is node
        if isinstance(within, ast.Call) and within.args and within.args[0] is node:
            return getattr(within.func, "id", "") in TAKERS or getattr(within.func, "attr", "") == "join"
        return False

    def check_set(self, node):
        within = self.parents[node]
        if isinstance(within, ast.Call) and getattr(within.func, "id", "") in ("sorted", "len"):
            return
        if isinstance(within, ast.Assign) and isinstance(within.targets[0], ast.Name):
            return
        if not isinstance(within, ast.Compare):
            self.fault(node, "L24 set")

    check_setcomp = check_set

    def check_annassign(self, node):
        if node.value is None:
            self.fault(node, "L21 annotation")

    def check_compare(self, node):
        for sign, right in zip(node.ops, node.comparators):
            if isinstance(sign, (ast.Is, ast.IsNot)):
                if not isinstance(right, ast.Constant) and getattr(node.left, "func", None) is None:
                    self.fault(node, "L20 is")

    def check_raise(self, node):
        if node.exc is not None:
            called = isinstance(node.exc, ast.Call) and isinstance(node.exc.func, ast.Name)
            if not called:
                self.fault(node, "L19 raise")

    def check_excepthandler(self, node):
        wrong = ("Exception", "TypeError", "ArithmeticError", "OverflowError", "RuntimeError", "NotImplementedError",
                 "AttributeError", "BaseException", "ValueError", "LookupError", "IndexError")
        kinds = node.type.elts if isinstance(node.type, ast.Tuple) else [node.type]
        for kind in kinds:
            if kind is None or getattr(kind, "id", "Exception") in wrong:
                self.fault(node, "L19 handler")

    def check_generatorexp(self, node):
        within = self.parents[node]
        word = getattr(within.func, "id", "join") if isinstance(within, ast.Call) else ""
        if word in LISTED_FIRST or word not in ("list", "tuple", "dict", "join"):
            self.fault(node, "L7 generator expression")


def name_faults(package):
    """The names of properties that are also those of methods or attributes, and of generators that are methods."""
    methods, properties, generators = set(), set(), set()
    for tree in package.trees.values():
        for node in ast.walk(tree):
            if isinstance(node, ast.ClassDef):
                for part in node.body:
                    words = [getattr(word, "id", getattr(word, "attr", ""))
                             for word in getattr(part, "decorator_list", [])]
                    if isinstance(part, ast.FunctionDef):
                        (properties if {"property", "setter"} & set(words) else methods).add(part.name)
            if isinstance(node, FUNCTIONS) and any(isinstance(part, (ast.Yield,
                                                                     ast.YieldFrom)) for part in ast.walk(node)):
                generators.add(node.name)
    return sorted(properties & (methods | package.attributes) | methods & package.attributes | generators & METHODS)


def cycle_faults(package):
    """The files that import each other, directly or not."""
    needs = {f"highestsky.{path.stem}": {node.module for node in tree.body if isinstance(node, ast.ImportFrom)
                                         and node.module.startswith("highestsky")}
             for path, tree in package.trees.items()}
    found = []
    for name in needs:
        seen, waiting = set(), list(needs[name])
        while waiting:
            other = waiting.pop()
            if other not in seen:
                seen.add(other)
                waiting.extend(needs.get(other, ()))
        if name in seen:
            found.append(f"{name}: L16 imports itself")
    return found
