"""What a script can see of the rules of the Python subset: told as (rule, file, line, what is wrong)."""

import ast
import builtins
import os
import re

PACKAGE = "givesifgets"
BUILTINS = set("""len range enumerate zip min max sum abs sorted reversed int str bool list tuple dict set isinstance ord
    repr any all divmod ValueError KeyError ZeroDivisionError""".split())
METHODS = set("""append clear copy count endswith extend find get index insert isalnum isalpha isdigit islower isspace
    isupper items join keys ljust lower lstrip partition pop remove replace reverse rfind rjust rpartition rsplit rstrip
    setdefault split splitlines startswith strip update upper values zfill bit_length""".split())
NOT_OWN = set(dir(str)) | set(dir(int)) | set(dir(list)) | set(dir(dict)) | set(dir(set)) | set(dir(bytes))
MUTATING = {"append", "clear", "extend", "insert", "pop", "remove", "reverse", "setdefault", "update"}
KEYWORDS = {"sorted": {"key", "reverse"}, "min": {"key", "default"}, "max": {"key", "default"}, "sum": {"start"},
            "enumerate": {"start"}, "zip": {"strict"}}
ON_THE_SPOT = {"zip", "enumerate", "reversed", "range"}
VIEWS = {"items", "keys", "values"}
SPOT_TAKERS = {"list", "tuple", "dict", "sorted", "sum", "any", "all", "enumerate", "zip", "min", "max"}
DUNDERS = {"__init__", "__len__", "__eq__", "__repr__", "__str__"}
STATEMENTS = (ast.FunctionDef, ast.ClassDef, ast.Assign, ast.AugAssign, ast.If, ast.While, ast.For, ast.Return, ast.Break,
              ast.Continue, ast.Pass, ast.Raise, ast.Assert, ast.Delete, ast.Try, ast.Expr, ast.ImportFrom)
NAMES_NOWHERE = set("register mro elements open input law version_info with_traceback add_note".split())
NAMES_NOT_BOUND = set("""attrgetter breakpoint builtins compile copyright credits delattr dir eval exec exit gc getattr
    globals hasattr help id importlib license locals methodcaller os quit setattr super type vars sys""".split())
WORDS_NOWHERE = re.compile(r"\b(type|typing|typing_extensions|enum|Enum|IntEnum|StrEnum|Flag|IntFlag|Generic|Protocol|ABC|"
                           r"ABCMeta|namedtuple|NamedTuple|TypedDict|TYPE_CHECKING|abstractmethod)\b|dataclass|overload|"
                           r"contextmanager|_wall|_WallAttr")
FILES_NOWHERE = re.compile(r"law_.*|tests?|testing|test_.*|site|conftest|sitecustomize|usercustomize")


class Checker:
    """Looks at all files of a package, given as {name: text}."""

    def __init__(self, files):
        self.files = files
        self.wrong = []
        self.trees = {}
        for name, text in files.items():
            self.name = name
            self.look_at_file(name, text)
            self.trees[name] = ast.parse(text)
        self.methods = {item.name for tree in self.trees.values() for item in ast.walk(tree)
                        if isinstance(item, ast.FunctionDef)}
        for name, tree in self.trees.items():
            self.name = name
            self.parents = {child: node for node in ast.walk(tree) for child in ast.iter_child_nodes(node)}
            self.look_at_tree(tree)
        self.look_for_circles()

    def say(self, rule, node, what):
        self.wrong.append((rule, self.name, node if isinstance(node, int) else getattr(node, "lineno", 0), what))

    # files and signs

    def look_at_file(self, name, text):
        stem = name[:-3]
        if not name.endswith(".py") or not re.fullmatch("[a-z0-9_]+", stem) or FILES_NOWHERE.fullmatch(stem):
            self.say("L14", 0, "file name")
        if stem in dir(builtins) or stem in NAMES_NOWHERE | NAMES_NOT_BOUND or WORDS_NOWHERE.fullmatch(stem):
            self.say("L14", 0, "file name")
        lines = text.split("\n")
        if len(lines) > 400:
            self.say("L10", 400, "file too long")
        for at, line in enumerate(lines, start=1):
            if len(line) > 120:
                self.say("L10", at, "line too long")
            if not all(" " <= sign <= "~" for sign in line):
                self.say("L14", at, "sign")
        for at, line in enumerate(lines, start=1):
            if re.search(r"_wall|_WallAttr|dataclass|overload|contextmanager", line):
                self.say("L12", at, "word")
            if re.search(r"\\[^nt\\'\"]|\\$", line):
                self.say("L27", at, "escape or joined line")

    # the tree

    def look_at_tree(self, tree):
        self.imported, self.classes, self.top, self.body = {}, set(), {}, tree.body
        for at, node in enumerate(tree.body):
            self.look_at_top(node, at)
        for name in set(self.imported) - {node.id for node in ast.walk(tree) if isinstance(node, ast.Name)}:
            self.say("L2", self.top[name], name + " is imported, but not used")
        for node in ast.walk(tree):
            self.look_at_node(node)
            if isinstance(node, (ast.FunctionDef, ast.Lambda)):
                self.look_at_function(node)

    def look_at_top(self, node, at):
        if isinstance(node, ast.ImportFrom):
            self.look_at_import(node)
        elif isinstance(node, (ast.FunctionDef, ast.ClassDef)):
            self.bind(node.name, node)
            if isinstance(node, ast.ClassDef):
                self.classes.add(node.name)
                self.look_at_class(node)
        elif isinstance(node, ast.Assign) and len(node.targets) == 1 and isinstance(node.targets[0], ast.Name):
            self.bind(node.targets[0].id, node)
            if not self.is_plain(node.value):
                self.say("L3", node, "value at module level")
        elif not (at == 0 and isinstance(node, ast.Expr) and isinstance(node.value, ast.Constant)):
            self.say("L3", node, "statement at module level")

    def bind(self, name, node):
        if name in self.top:
            self.say("L15", node, name + " bound twice")
        self.top[name] = node
        if name in dir(builtins) or name in NAMES_NOWHERE | NAMES_NOT_BOUND:
            self.say("L15", node, name)

    def is_plain(self, node):
        if isinstance(node, (ast.Tuple, ast.List)):
            return all(self.is_plain(thing) for thing in node.elts)
        if isinstance(node, ast.Dict):
            return all(self.is_plain(thing) for thing in node.keys + node.values)
        if isinstance(node, ast.UnaryOp):
            return isinstance(node.op, ast.USub) and self.is_plain(node.operand)
        if isinstance(node, ast.Name):
            return isinstance(self.top.get(node.id), ast.FunctionDef)
        return isinstance(node, ast.Constant) and not isinstance(node.value, (float, complex))

    def look_at_import(self, node):
        if node.module in ("heapq", "math", "itertools", "collections"):
            allowed = {"heapq": {"heappush", "heappop", "heapify", "heapreplace", "heappushpop"},
                       "math": {"gcd", "lcm", "isqrt", "comb", "perm", "factorial"},
                       "itertools": {"product", "combinations", "permutations", "chain", "accumulate", "pairwise",
                                     "islice", "zip_longest"}, "collections": {"defaultdict"}}[node.module]
            if any(name.name not in allowed or name.asname for name in node.names):
                self.say("L2", node, "import")
            return
        stem = (node.module or "").split(".")
        source = self.trees.get(stem[-1] + ".py")
        if node.level or len(stem) != 2 or stem[0] != PACKAGE or source is None:
            self.say("L2", node, "import from %s" % node.module)
            return
        defined = {item.name for item in source.body if isinstance(item, (ast.FunctionDef, ast.ClassDef))}
        defined |= {item.targets[0].id for item in source.body if isinstance(item, ast.Assign)}
        for name in node.names:
            if name.asname or name.name not in defined:
                self.say("L16", node, name.name)
            self.bind(name.name, node)
            self.imported[name.name] = stem[1]

    def look_for_circles(self):
        near = {name: {(node.module or "").split(".")[-1] + ".py" for node in tree.body if isinstance(node, ast.ImportFrom)}
                for name, tree in self.trees.items()}
        for name in near:
            reached, ahead = set(), list(near[name])
            while ahead:
                other = ahead.pop()
                if other not in reached:
                    reached.add(other)
                    ahead.extend(near.get(other, ()))
            if name in reached:
                self.wrong.append(("L16", name, 0, "imports itself"))

    def look_at_class(self, node):
        if node.decorator_list or node.keywords:
            self.say("L5", node, "class")
        methods = [item for item in node.body if isinstance(item, ast.FunctionDef)]
        rest = [item for item in node.body if item not in methods]
        if any(not (isinstance(item, ast.Pass) or isinstance(item, ast.Expr) and isinstance(item.value, ast.Constant))
               for item in rest):
            self.say("L5", node, "body of a class")
        names = [item.name for item in methods]
        if len(names) != len(set(names)):
            self.say("L18", node, "method twice")
        stored = {item.attr for item in ast.walk(node) if isinstance(item, ast.Attribute)
                  and isinstance(item.ctx, ast.Store)}
        for name in set(names) & stored:
            self.say("L18", node, name)
        for name in stored & (NOT_OWN - {"count", "index", "title", "find", "get", "join", "lower", "upper", "split",
                                         "strip", "copy", "add"}):
            self.say("L26", node, name)
        for name in set(names) & NOT_OWN - METHODS - {"add", "discard"} - DUNDERS:
            self.say("L26", node, name)

    # functions

    def look_at_function(self, node):
        arguments = node.args
        names = [arg.arg for arg in arguments.args + arguments.posonlyargs + arguments.kwonlyargs]
        names += [arg.arg for arg in (arguments.vararg, arguments.kwarg) if arg]
        for default in arguments.defaults + [thing for thing in arguments.kw_defaults if thing]:
            if not self.is_plain(default) or isinstance(default, (ast.List, ast.Dict)):
                self.say("L4", node, "default value")
        if isinstance(node, ast.FunctionDef):
            if node.end_lineno - node.lineno + 1 > 40:
                self.say("L10", node, "function too long")
            if node.decorator_list or node.returns or any(arg.annotation for arg in arguments.args):
                self.say("L4", node, "decorator or annotation")
            if node.name.startswith("__") and node.name not in DUNDERS:
                self.say("L5", node, node.name)
            if node.name == "__init__" and any(isinstance(item, ast.Return) for item in ast.walk(node)):
                self.say("L28", node, "return")
        for item in ast.walk(node):
            if isinstance(item, ast.Name) and isinstance(item.ctx, ast.Store):
                names.append(item.id)
            if isinstance(item, ast.ExceptHandler) and item.name:
                names.append(item.name)
        for name in names:
            if name in self.imported or name in self.classes or name in dir(builtins):
                self.say("L15", node, name)
            if name in NAMES_NOWHERE | NAMES_NOT_BOUND:
                self.say("L17", node, name)
        self.look_at_stored_sets(node)

    def look_at_stored_sets(self, node):
        kept = {}
        for item in ast.walk(node):
            if isinstance(item, ast.Assign) and self.makes_set(item.value) and isinstance(item.targets[0], ast.Name):
                kept.setdefault(item.targets[0].id, []).append(item)
        for name, where in kept.items():
            stores = [item for item in ast.walk(node) if isinstance(item, ast.Name) and item.id == name
                      and isinstance(item.ctx, ast.Store)]
            if len(where) > 1 or len(stores) > 1:
                self.say("L24", where[0], name + " assigned twice")
            for item in ast.walk(node):
                if isinstance(item, ast.Name) and item.id == name and isinstance(item.ctx, ast.Load):
                    self.look_at_set_use(item)

    def look_at_set_use(self, node):
        parent = self.parents[node]
        if isinstance(parent, ast.Compare) and isinstance(parent.ops[0], (ast.In, ast.NotIn)):
            if parent.comparators[0] is node:
                return
        if isinstance(parent, ast.Attribute) and parent.attr in ("add", "discard"):
            return
        if isinstance(parent, ast.Call) and getattr(parent.func, "id", "") in ("len", "sorted"):
            return
        if isinstance(parent, (ast.If, ast.While)) and parent.test is node:
            return
        self.say("L24", node, node.id)

    def makes_set(self, node):
        if isinstance(node, (ast.Set, ast.SetComp)):
            return True
        return isinstance(node, ast.Call) and getattr(node.func, "id", "") in ("set", "frozenset")

    # single nodes

    def look_at_node(self, node):
        if isinstance(node, ast.stmt) and not isinstance(node, STATEMENTS):
            self.say("L6", node, type(node).__name__)
        if isinstance(node, ast.FunctionDef) and isinstance(self.parents[node], (ast.FunctionDef, ast.For, ast.If)):
            self.say("L4", node, "nested function")
        for kind, rule in ((ast.NamedExpr, "L7"), (ast.Await, "L6"), (ast.Div, "L7"), (ast.MatMult, "L7"),
                           (ast.Global, "L6"), (ast.Nonlocal, "L6"), (ast.Yield, "L23"), (ast.YieldFrom, "L23"),
                           (ast.GeneratorExp, "L7"), (ast.AnnAssign, "L21"), (ast.Pow, "L27")):
            # some of these the rules allow in places: this package does without them
            if isinstance(node, kind):
                self.say(rule, node, kind.__name__)
        if isinstance(node, ast.Import) or isinstance(node, ast.ImportFrom) and node not in self.body:
            self.say("L2", node, "import")
        if isinstance(node, ast.Name):
            self.look_at_name(node)
        if isinstance(node, ast.Attribute):
            self.look_at_attribute(node)
        if isinstance(node, ast.Call):
            self.look_at_call(node)
        if isinstance(node, ast.Constant):
            self.look_at_constant(node)
        if isinstance(node, ast.Compare):
            self.look_at_compare(node)
        if self.makes_set(node):
            self.look_at_set(node)
        if isinstance(node, ast.ExceptHandler) and node.type is None:
            self.say("L6", node, "except of everything")
        if isinstance(node, ast.Raise) and node.exc and not isinstance(node.exc, ast.Call):
            self.say("L19", node, "raise")
        if isinstance(node, (ast.For, ast.comprehension)):
            self.look_at_loop(node)
        if isinstance(node, (ast.ListComp, ast.SetComp, ast.DictComp)):
            self.look_at_comprehension(node)

    def look_at_name(self, node):
        if not re.fullmatch(r"_|_?[A-Za-z][A-Za-z0-9_]*", node.id):
            self.say("L12", node, node.id)
        if node.id == "_" and isinstance(node.ctx, ast.Load):
            self.say("L12", node, "_ is read")
        if node.id in NAMES_NOWHERE or re.match("_wall|_pe_|_dcw_|_enum_|_cm_|_twin_re_|_lay_|_law_|_stub_|_sre", node.id):
            self.say("L17", node, node.id)
        if isinstance(node.ctx, ast.Load) and node.id in dir(builtins) and node.id not in BUILTINS:
            self.say("L8", node, node.id)
        parent = self.parents[node]
        if node.id in BUILTINS and isinstance(node.ctx, ast.Load):
            called = isinstance(parent, ast.Call) and parent.func is node
            named = isinstance(parent, (ast.ClassDef, ast.ExceptHandler)) or (
                isinstance(parent, ast.keyword) and parent.arg == "key")
            asked = isinstance(parent, ast.Call) and getattr(parent.func, "id", "") == "isinstance"
            tupled = isinstance(parent, ast.Tuple) and isinstance(self.parents[parent], ast.Call) and getattr(
                self.parents[parent].func, "id", "") == "isinstance"
            if not (called or named or asked or tupled):
                self.say("L22", node, node.id + " is not called")

    def look_at_attribute(self, node):
        if node.attr.startswith("__") or node.attr in NAMES_NOWHERE | {"format", "format_map"}:
            self.say("L8", node, node.attr)
        parent = self.parents[node]
        called = isinstance(parent, ast.Call) and parent.func is node
        if called and node.attr not in METHODS | self.methods | {"add", "discard"}:
            self.say("L25", node, node.attr)
        if not called and node.attr in METHODS | self.methods:
            self.say("L25", node, node.attr + " is passed on")
        if called and node.attr in MUTATING and isinstance(node.value, ast.Name) and node.value.id in self.top:
            self.say("L15", node, node.value.id + " is changed")

    def look_at_call(self, node):
        name = getattr(node.func, "id", None)
        if name in BUILTINS:
            for keyword in node.keywords:
                if keyword.arg not in KEYWORDS.get(name, ()):
                    self.say("L22", node, "%s of %s" % (keyword.arg, name))
        if isinstance(node.func, ast.Attribute) and node.func.attr in METHODS and node.keywords:
            self.say("L25", node, "keywords of " + node.func.attr)
        view = isinstance(node.func, ast.Attribute) and node.func.attr in VIEWS
        if name in ON_THE_SPOT or view:
            parent = self.parents[node]
            taken = isinstance(parent, ast.Call) and getattr(parent.func, "id", "") in SPOT_TAKERS
            looped = isinstance(parent, (ast.For, ast.comprehension)) and parent.iter is node
            if not taken and not looped:
                self.say("L23", node, name or node.func.attr)

    def look_at_constant(self, node):
        if isinstance(node.value, (float, complex)):
            self.say("L7", node, "float")
        if isinstance(node.value, str):
            docstring = isinstance(self.parents[node], ast.Expr)
            if "%" in node.value and not docstring:
                self.say("L27", node, "sign in a string")
            if not docstring and WORDS_NOWHERE.search(node.value) and node.value != "type":
                self.say("L17", node, "word in a string")
            if node.value.endswith("._") or node.value.startswith("__") and node.value.endswith("__"):
                self.say("L27", node, "string")

    def look_at_compare(self, node):
        for op, other in zip(node.ops, node.comparators):
            if isinstance(op, (ast.Is, ast.IsNot)):
                if not (isinstance(other, ast.Constant) and other.value in (None, True, False)):
                    self.say("L20", node, "is")

    def look_at_set(self, node):
        parent = self.parents[node]
        while isinstance(parent, ast.BinOp) and isinstance(parent.op, (ast.Sub, ast.BitAnd, ast.BitOr, ast.BitXor)):
            parent = self.parents[parent]
        if isinstance(parent, ast.Call) and getattr(parent.func, "id", "") in ("sorted", "len"):
            return
        if isinstance(parent, ast.Compare) and isinstance(parent.ops[0], (ast.In, ast.NotIn, ast.Eq, ast.NotEq)):
            return
        if not (isinstance(parent, ast.Assign) and isinstance(parent.targets[0], ast.Name)):
            self.say("L24", node, "set")

    def look_at_comprehension(self, node):
        stored = {item.id for part in node.generators for item in ast.walk(part.target) if isinstance(item, ast.Name)}
        outer = self.parents[node]
        nested = False
        while outer is not None and not isinstance(outer, (ast.FunctionDef, ast.Module)):
            if isinstance(outer, (ast.ListComp, ast.SetComp, ast.DictComp)):
                nested = True
                further = {item.id for part in outer.generators for item in ast.walk(part.target)
                           if isinstance(item, ast.Name)}
                for name in stored & further - {"_"}:
                    self.say("L7", node, name + " in two comprehensions")
            outer = self.parents.get(outer)
        if isinstance(outer, ast.Module):
            self.say("L3", node, "comprehension at module level")
        elif nested:
            for name in stored & self.assigned_in(outer) - {"_"}:
                self.say("L7", node, name + " in a comprehension within another one, and in its function")

    def assigned_in(self, function):
        """The names that a function itself assigns, its comprehensions left out."""
        parts = {name for item in ast.walk(function) if isinstance(item, (ast.ListComp, ast.SetComp, ast.DictComp))
                 for name in ast.walk(item)}
        names = {item.id for item in ast.walk(function) if isinstance(item, ast.Name) and item not in parts
                 and isinstance(item.ctx, ast.Store)}
        return names | {arg.arg for arg in function.args.args}

    def look_at_loop(self, node):
        """Nothing that a loop goes over is changed in it, by its plain name or attribute."""
        over = node.iter
        if isinstance(over, ast.Call) and getattr(over.func, "id", "") in ("enumerate", "zip", "reversed"):
            names = {ast.dump(thing) for thing in over.args}
        elif isinstance(over, ast.Call) and isinstance(over.func, ast.Attribute) and over.func.attr in VIEWS:
            names = {ast.dump(over.func.value)}
        else:
            names = {ast.dump(over)}
        body = node.body if isinstance(node, ast.For) else [self.parents[node]]
        for item in [item for statement in body for item in ast.walk(statement)]:
            if isinstance(item, ast.Attribute) and item.attr in MUTATING and ast.dump(item.value) in names:
                self.say("L23", item, "changed in its loop")
            if isinstance(item, ast.Subscript) and not isinstance(item.ctx, ast.Load) and ast.dump(item.value) in names:
                self.say("L23", item, "changed in its loop")


def files_of(folder):
    files = {}
    for name in sorted(os.listdir(folder)):
        if name != "__pycache__":
            with open(os.path.join(folder, name), encoding="utf-8", newline="") as source:
                files[name] = source.read()
    return files


def wrong_places(files):
    """All places of the files of a package that break a rule."""
    return Checker(files).wrong
