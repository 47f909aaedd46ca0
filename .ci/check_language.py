"""Looks through the package for what ../shared/LANGUAGE.md forbids, as far as a small script can see it.

Tells each place by rule, file and line; exits with 1 if there is one."""

import ast
import builtins
import os
import re
import sys

ROOT = os.path.dirname(os.path.dirname(os.path.abspath(__file__)))
PACKAGE = "nobodymeets"
BUILTINS = set("""len range enumerate zip min max sum abs sorted reversed int str bool bytes list tuple dict set frozenset
isinstance ord repr any all divmod pow getattr hasattr setattr iter next super property staticmethod classmethod
Exception ValueError TypeError KeyError IndexError LookupError ZeroDivisionError ArithmeticError OverflowError
RuntimeError NotImplementedError AttributeError StopIteration NotImplemented""".split())
METHODS = set("""append clear copy count endswith extend find get index insert isalnum isalpha isdigit islower isspace
isupper items join keys ljust lower lstrip partition pop remove replace reverse rfind rjust rpartition rsplit rstrip
setdefault split splitlines startswith strip update upper values zfill bit_length""".split())
LIBRARY = {"heapq": "heappush heappop heapify heapreplace heappushpop", "math": "gcd lcm isqrt comb perm factorial",
           "itertools": "product combinations permutations chain accumulate pairwise islice zip_longest",
           "collections": "defaultdict"}
DOUBLE = set("__init__ __eq__ __repr__ __str__ __len__".split())
NEVER = set("register mro elements open input law version_info with_traceback add_note".split())
WORDS = set("""typing typing_extensions enum Enum IntEnum StrEnum Flag IntFlag Generic Protocol ABC ABCMeta namedtuple
NamedTuple TypedDict TYPE_CHECKING abstractmethod dataclass overload contextmanager _wall _WallAttr""".split())
BARRED = (ast.Global, ast.AsyncFunctionDef, ast.AsyncFor, ast.AsyncWith, ast.Lambda, ast.Set, ast.SetComp,
          ast.GeneratorExp, ast.Yield, ast.YieldFrom, ast.Match, ast.With, ast.Await, ast.Nonlocal, ast.NamedExpr)


class Look:
    """One file, and what was found wrong in it."""

    def __init__(self, path, own):
        self.path = path
        self.own = own
        self.faults = []
        with open(path, "rb") as file:
            self.text = file.read().decode("ascii", "replace")
        self.tree = ast.parse(self.text)

    def wrong(self, rule, line, what):
        self.faults.append(f"{os.path.relpath(self.path, ROOT)}:{line}: {rule}: {what}")

    def all_faults(self):
        self.look_at_lines()
        self.look_at_module()
        for node in ast.walk(self.tree):
            self.look_at(node)
        return self.faults

    def look_at_lines(self):
        lines = self.text.split("\n")
        if len(lines) > 400:
            self.wrong("L10", len(lines), "more than 399 lines")
        for number, line in enumerate(lines, 1):
            if len(line) > 120:
                self.wrong("L10", number, "a line of more than 120 characters")
            if any(not " " <= sign <= "~" for sign in line):
                self.wrong("L14", number, "a character that is none from the space to the tilde")
            for word in sorted(WORDS & set(re.findall(r"\w+", line))):
                self.wrong("L12, L17", number, word)

    def look_at_module(self):
        names, last = set(), 0
        for place, node in enumerate(self.tree.body):
            if isinstance(node, ast.ImportFrom):
                last = max(last, place)
                if place > last + 1 or any(not isinstance(other, (ast.ImportFrom, ast.Expr))
                                           for other in self.tree.body[:place]):
                    self.wrong("L2", node.lineno, "an import below other things")
                self.look_at_import(node)
                found = [alias.asname or alias.name for alias in node.names]
            elif isinstance(node, (ast.FunctionDef, ast.ClassDef)):
                found = [node.name]
            elif isinstance(node, ast.Assign) and len(node.targets) == 1 and isinstance(node.targets[0], ast.Name):
                found = [node.targets[0].id]
                if not self.is_plain(node.value):
                    self.wrong("L3", node.lineno, "a module-level value that is not plain")
            elif place == 0 and isinstance(node, ast.Expr) and isinstance(node.value, ast.Constant):
                found = []
            else:
                self.wrong("L3", node.lineno, "a statement at module level")
                found = []
            for name in found:
                if name in names:
                    self.wrong("L15", node.lineno, f"{name} is bound twice")
                names.add(name)
        self.bound = {name.asname or name.name for node in self.tree.body if isinstance(node, ast.ImportFrom)
                      for name in node.names} | {node.name for node in self.tree.body if isinstance(node, ast.ClassDef)}

    def is_plain(self, node):
        if isinstance(node, (ast.Constant, ast.Name, ast.UnaryOp)):
            return True
        if isinstance(node, (ast.Tuple, ast.List)):
            return all(self.is_plain(item) for item in node.elts)
        return isinstance(node, ast.Dict) and all(self.is_plain(item) for item in node.keys + node.values)

    def look_at_import(self, node):
        parts = (node.module or "").split(".")
        if node.level or any(alias.name == "*" or alias.asname for alias in node.names):
            self.wrong("L2", node.lineno, "an import with a dot, a star or as")
        if parts[0] == PACKAGE:
            for alias in node.names:
                if alias.name not in self.own.get(node.module, ()):
                    self.wrong("L16", node.lineno, f"{alias.name} is not defined in {node.module}")
        elif parts[0] not in LIBRARY or any(alias.name not in LIBRARY[parts[0]].split() for alias in node.names):
            self.wrong("L2", node.lineno, f"an import from {node.module}")

    def look_at(self, node):
        if isinstance(node, BARRED):
            self.wrong("L4-L7, L24", node.lineno, f"{type(node).__name__} (allowed in part: look it up)")
        if isinstance(node, ast.Import):
            self.wrong("L16", node.lineno, "import without from")
        if isinstance(node, ast.FunctionDef):
            self.look_at_function(node)
        if isinstance(node, ast.ClassDef):
            self.look_at_class(node)
        if isinstance(node, ast.Name):
            self.look_at_name(node)
        if isinstance(node, ast.Attribute) and (node.attr in NEVER or node.attr.startswith("__")):
            self.wrong("L8, L17", node.lineno, node.attr)
        if isinstance(node, ast.Call):
            self.look_at_call(node)
        if isinstance(node, ast.Constant):
            self.look_at_constant(node)
        if isinstance(node, ast.BinOp) and isinstance(node.op, ast.Div):
            self.wrong("L7", node.lineno, "/")
        if isinstance(node, ast.Compare) and any(isinstance(op, (ast.Is, ast.IsNot)) for op in node.ops):
            if not isinstance(node.comparators[0], ast.Constant):
                self.wrong("L20", node.lineno, "is beside another thing than None, True, False")
        if isinstance(node, ast.Raise) and node.exc is not None and not isinstance(node.exc, ast.Call):
            self.wrong("L19", node.lineno, "an error that is not made on the spot")
        if isinstance(node, ast.ExceptHandler):
            self.look_at_handler(node)
        if isinstance(node, (ast.For, ast.comprehension)):
            self.look_at_loop(node)

    def look_at_function(self, node):
        if node.end_lineno - node.lineno + 1 > 40:
            self.wrong("L10", node.lineno, f"{node.name} has more than 40 lines")
        if node.decorator_list:
            self.wrong("L4", node.lineno, "a decorator")
        if node.name.startswith("__") and node.name not in DOUBLE:
            self.wrong("L5", node.lineno, node.name)
        for parameter in node.args.args + node.args.kwonlyargs:
            self.look_at_bound(parameter.arg, parameter.lineno)

    def look_at_class(self, node):
        if node.decorator_list or node.keywords:
            self.wrong("L5", node.lineno, "a decorator or a keyword of a class")
        methods = {item.name for item in node.body if isinstance(item, ast.FunctionDef)}
        fields = {item.attr for item in ast.walk(node) if isinstance(item, ast.Attribute)
                  and isinstance(item.ctx, ast.Store)}
        for name in methods & fields:
            self.wrong("L18", node.lineno, f"{name} is a method and an attribute")

    def look_at_name(self, node):
        if isinstance(node.ctx, ast.Store):
            self.look_at_bound(node.id, node.lineno)
        elif node.id == "_":
            self.wrong("L12", node.lineno, "_ is read")
        elif hasattr(builtins, node.id) and node.id not in BUILTINS:
            self.wrong("L8", node.lineno, node.id)

    def look_at_bound(self, name, line):
        if hasattr(builtins, name) or name in NEVER or name in self.bound or name.startswith("__"):
            self.wrong("L15, L17", line, f"{name} is bound")

    def look_at_call(self, node):
        function = node.func
        if isinstance(function, ast.Attribute) and function.attr not in METHODS and function.attr not in self.own[""]:
            self.wrong("L25", node.lineno, f"a call of .{function.attr}")
        if isinstance(function, ast.Name) and function.id in ("set", "frozenset", "bytes", "getattr", "pow", "iter"):
            self.wrong("L7, L8, L24", node.lineno, f"a call of {function.id} (allowed in part: look it up)")
        if not isinstance(function, (ast.Name, ast.Attribute)):
            self.wrong("L7", node.lineno, "a call of neither a name nor an attribute")

    def look_at_constant(self, node):
        if isinstance(node.value, (float, complex)):
            self.wrong("L7", node.lineno, "a float")
        if isinstance(node.value, str) and ("%" in node.value or "__" in node.value):
            self.wrong("L27", node.lineno, "a string with a percent sign or two underscores")

    def look_at_handler(self, node):
        kinds = node.type.elts if isinstance(node.type, ast.Tuple) else [node.type]
        for kind in kinds:
            if not isinstance(kind, ast.Name) or hasattr(builtins, kind.id):
                self.wrong("L19", node.lineno, "a handler of an error of Python's own")

    def look_at_loop(self, node):
        over = {item.id for item in ast.walk(node.iter) if isinstance(item, ast.Name)}
        for item in ast.walk(node) if isinstance(node, ast.For) else ():
            if isinstance(item, ast.Call) and isinstance(item.func, ast.Attribute) and item.func.attr in (
                    "append", "extend", "pop", "insert", "remove", "clear", "update", "setdefault", "reverse"):
                if isinstance(item.func.value, ast.Name) and item.func.value.id in over:
                    self.wrong("L23", item.lineno, f"{item.func.value.id} is changed in a loop over it")


def defined_names(path):
    with open(path) as file:
        tree = ast.parse(file.read())
    names = []
    for node in tree.body:
        if isinstance(node, (ast.FunctionDef, ast.ClassDef)):
            names.append(node.name)
        elif isinstance(node, ast.Assign):
            names.append(node.targets[0].id)
    methods = [item.name for node in tree.body if isinstance(node, ast.ClassDef) for item in node.body
               if isinstance(item, ast.FunctionDef)]
    return names, methods


def circles(files):
    """Files that import from each other, directly or through others."""
    follow = {}
    for module, path in files.items():
        with open(path) as file:
            tree = ast.parse(file.read())
        follow[module] = {node.module for node in tree.body if isinstance(node, ast.ImportFrom)} & set(files)
    left = dict(follow)
    while True:
        free = [module for module in left if not left[module] & set(left)]
        if not free:
            return sorted(left)
        for module in free:
            del left[module]


def main():
    folder = os.path.join(ROOT, PACKAGE)
    files, faults = {}, []
    for name in sorted(os.listdir(folder)):
        if name.endswith(".py"):
            files[f"{PACKAGE}.{name[:-3]}"] = os.path.join(folder, name)
        elif name != "__pycache__":
            faults.append(f"{PACKAGE}/{name}: L1: no .py file")
    own = {"": set()}
    for module, path in files.items():
        own[module], methods = defined_names(path)
        own[""] |= set(methods)
    for path in files.values():
        faults.extend(Look(path, own).all_faults())
    faults.extend(f"{module}: L16: imports in a circle" for module in circles(files))
    print("\n".join(faults + [f"language: {len(files)} files, {len(faults)} faults"]))
    return 1 if faults else 0


if __name__ == "__main__":
    sys.exit(main())
