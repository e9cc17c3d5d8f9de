"""Looks for code in the package that is outside the subset of Python in which it is written.

It is narrower than the subset where the package needs less (no lambdas, no generator expressions, no sets and so on),
and tells each find as a text with the file and the line.
"""

import ast
import builtins
import pathlib

PACKAGE = pathlib.Path(__file__).resolve().parent.parent / "viewloom"

BUILTINS = set(
    "len range enumerate zip min max sum abs sorted reversed int str bool list tuple dict isinstance ord repr any all"
    " divmod super iter ValueError".split()
)
METHODS = set(
    "append clear copy count endswith extend find get index insert isalnum isalpha isdigit islower isspace isupper"
    " items join keys ljust lower lstrip partition pop remove replace reverse rfind rjust rpartition rsplit rstrip"
    " setdefault split splitlines startswith strip update upper values zfill bit_length removeprefix removesuffix"
    " isascii".split()
)
UNUSED_EVERYWHERE = set("register mro elements open input law version_info with_traceback add_note".split())
UNUSED_NAMES = set(
    "attrgetter breakpoint builtins compile copyright credits delattr dir eval exec exit gc getattr globals hasattr"
    " help id importlib license locals methodcaller os quit setattr sys super type vars".split()
)
UNUSED_WORDS = set(
    "type typing typing_extensions enum Enum IntEnum StrEnum Flag IntFlag Generic Protocol ABC ABCMeta namedtuple"
    " NamedTuple TypedDict TYPE_CHECKING abstractmethod dataclass overload contextmanager".split()
)
BARRED_ATTRIBUTES = set(
    "items keys values pop update append clear extend insert remove reverse setdefault sort args encode decode hex"
    " fromhex format format_map mro as_integer_ratio bit_count conjugate from_bytes is_integer to_bytes".split()
)
SPECIAL_METHODS = set("__init__ __contains__ __iter__ __len__ __eq__".split())
BARRED_NODES = (
    ast.Global, ast.Nonlocal, ast.AsyncFunctionDef, ast.AsyncFor, ast.AsyncWith, ast.Await, ast.Lambda, ast.With,
    ast.Match, ast.Set, ast.SetComp, ast.GeneratorExp, ast.YieldFrom, ast.NamedExpr, ast.Div, ast.MatMult, ast.Assert,
    ast.AnnAssign, ast.Import,
)
# What iterates over a generator, a zip and the like at once.
ITERATING = set("list tuple sorted sum dict enumerate zip".split())
# The generators that the interface names; nothing else has one of these names.
GENERATORS = set("walk effect_order".split())
# What may stand in a property, an operator and what they call: nothing that changes what they did not create.
CHANGING = set("append clear extend insert pop remove reverse setdefault update sort add discard".split())


def files():
    """Returns the files of the package."""
    return sorted(path for path in PACKAGE.rglob("*") if path.is_file() and "__pycache__" not in path.parts)


def finds():
    """Returns all finds in the package."""
    found = []
    trees = {}
    for path in files():
        text = path.read_text(encoding="utf-8")
        found.extend(text_finds(path, text))
        trees[path] = ast.parse(text)
    for path, tree in trees.items():
        found.extend(Look(path, tree).finds())
    found.extend(folder_finds())
    found.extend(import_finds(trees))
    found.extend(attribute_finds(trees))
    found.extend(property_finds(trees))
    found.extend(generator_finds(trees))
    return found


def text_finds(path, text):
    found = []
    lines = text.split("\n")
    if path.suffix != ".py" or not path.stem.replace("_", "a").isalnum() or path.stem != path.stem.lower():
        found.append(f"{path}: name of the file")
    if not text.endswith("\n") or len(lines) - 1 > 399:
        found.append(f"{path}: lines")
    for number, line in enumerate(lines, 1):
        if len(line) > 120:
            found.append(f"{path}:{number}: long line")
        if any(not " " <= sign <= "~" for sign in line):
            found.append(f"{path}:{number}: character")
        if line != line.rstrip():
            found.append(f"{path}:{number}: space at the end")
    return found


def folder_finds():
    found = []
    folders = {path.parent for path in files()}
    for folder in folders:
        if not (folder / "__init__.py").is_file():
            found.append(f"{folder}: no __init__.py")
        for path in folder.iterdir():
            if path.is_dir() and path.with_suffix(".py").exists():
                found.append(f"{path}: folder and file of one name")
    if len(files()) > 100:
        found.append("too many files")
    return found


def module_of(path):
    parts = list(path.relative_to(PACKAGE.parent).with_suffix("").parts)
    return ".".join(parts[:-1] if parts[-1] == "__init__" else parts)


def import_finds(trees):
    """Looks for imports that go round, and for names that do not stand in the file that is named."""
    found = []
    modules = {module_of(path): tree for path, tree in trees.items()}
    needs = {}
    for module, tree in modules.items():
        needs[module] = set()
        for node in tree.body:
            if not isinstance(node, ast.ImportFrom):
                continue
            needs[module].add(node.module)
            for alias in node.names:
                if node.module not in modules or alias.name not in bound_names(modules[node.module]):
                    found.append(f"{module}: {alias.name} does not stand in {node.module}")
    for module in needs:
        seen = set()
        waiting = list(needs[module])
        while waiting:
            other = waiting.pop()
            if other not in seen:
                seen.add(other)
                waiting.extend(needs.get(other, ()))
        if module in seen:
            found.append(f"{module}: imports go round")
    return found


def bound_names(tree):
    names = []
    for node in tree.body:
        if isinstance(node, (ast.FunctionDef, ast.ClassDef)):
            names.append(node.name)
        if isinstance(node, ast.Assign):
            names.extend(target.id for target in node.targets)
    return names


def attribute_finds(trees):
    """Looks for names that are methods and attributes, and for attributes that are read and never assigned."""
    methods, assigned, read, found = set(), set(), set(), []
    for tree in trees.values():
        for node in ast.walk(tree):
            if isinstance(node, ast.ClassDef):
                own = {part.name for part in node.body if isinstance(part, ast.FunctionDef)}
                methods |= own
                assigned.update(part.targets[0].id for part in node.body if isinstance(part, ast.Assign))
                # In other classes a name may be both.
                found.extend(f"{name} is a method and an attribute" for name in sorted(own & own_attributes(node)))
            if isinstance(node, ast.Attribute):
                (assigned if isinstance(node.ctx, ast.Store) else read).add(node.attr)
    for name in sorted(read - assigned - methods - METHODS):
        found.append(f"{name} is read and never assigned")
    for name in sorted(assigned & (BARRED_ATTRIBUTES | UNUSED_EVERYWHERE)):
        found.append(f"{name} is no name of an attribute")
    return found


def own_attributes(owner):
    """Returns the names of the attributes that the methods of a class assign to its objects."""
    return {
        node.attr for node in ast.walk(owner)
        if isinstance(node, ast.Attribute) and isinstance(node.ctx, ast.Store)
        and isinstance(node.value, ast.Name) and node.value.id == "self"
    }


def is_property(function):
    return [ast.unparse(decorator) for decorator in function.decorator_list] == ["property"]


def functions_of(trees):
    """Returns all functions and methods of the package."""
    return [node for tree in trees.values() for node in ast.walk(tree) if isinstance(node, ast.FunctionDef)]


def property_finds(trees):
    """Looks for properties, operators and what they call that assign or change something that is not local."""
    found = []
    functions = {}
    for function in functions_of(trees):
        functions.setdefault(function.name, []).append(function)
    names = set(name for name, group in functions.items() if any(map(is_property, group)))
    for name in sorted(names):
        if not all(map(is_property, functions[name])):
            found.append(f"{name} is a property and a method")
    waiting = sorted(names | (SPECIAL_METHODS - {"__init__"}))
    seen = set()
    while waiting:
        name = waiting.pop()
        if name in seen:
            continue
        seen.add(name)
        for function in functions.get(name, []):
            found.extend(f"{function.name}:{function.lineno}: {message}" for message in changes_in(function))
            for node in ast.walk(function):
                if isinstance(node, ast.Call):
                    waiting.append(node.func.id if isinstance(node.func, ast.Name) else node.func.attr)
    for tree in trees.values():
        for node in ast.walk(tree):
            if isinstance(node, ast.Attribute) and isinstance(node.ctx, ast.Store) and node.attr in names:
                found.append(f"property {node.attr} is assigned")
            if isinstance(node, ast.Call) and isinstance(node.func, ast.Attribute) and node.func.attr in names:
                found.append(f"property {node.func.attr} is called")
    return found


def changes_in(function):
    """Returns what a function does that a property must not do."""
    found = []
    parameters = [argument.arg for argument in function.args.args]
    created = created_in(function)
    for node in ast.walk(function):
        if isinstance(node, (ast.Attribute, ast.Subscript)) and isinstance(node.ctx, (ast.Store, ast.Del)):
            if not (isinstance(node, ast.Attribute) and isinstance(node.value, ast.Name) and node.value.id in created):
                found.append("assigns to a part of something")
        if isinstance(node, (ast.AugAssign, ast.Yield, ast.Global)):
            found.append(type(node).__name__)
        if isinstance(node, ast.Call) and isinstance(node.func, ast.Attribute) and node.func.attr in CHANGING:
            found.append(f"calls {node.func.attr}")
        if isinstance(node, ast.Call) and isinstance(node.func, ast.Name) and node.func.id in parameters:
            found.append("calls what it is passed")
    return found


def created_in(function):
    """Returns the names of the local variables that are assigned only a new object of an own class."""
    values = {}
    for node in ast.walk(function):
        if isinstance(node, ast.Assign) and isinstance(node.targets[0], ast.Name):
            values.setdefault(node.targets[0].id, []).append(node.value)
    return {
        name for name, given in values.items()
        if all(isinstance(one, ast.Call) and isinstance(one.func, ast.Name) and one.func.id[0].isupper() for one in given)
    }


def generator_finds(trees):
    """Looks for generators with other names, and for calls of them that are not iterated at once."""
    found = []
    for function in functions_of(trees):
        yields = [node for node in ast.walk(function) if isinstance(node, ast.Yield)]
        if bool(yields) != (function.name in GENERATORS):
            found.append(f"{function.name}: is a generator, or has the name of one")
        plain = [node.value for node in ast.walk(function) if isinstance(node, ast.Expr)]
        if any(node not in plain or node.value is None for node in yields):
            found.append(f"{function.name}: yield")
    for path, tree in trees.items():
        iterated = iterated_in(tree)
        called = set()
        for node in ast.walk(tree):
            if isinstance(node, ast.Call) and isinstance(node.func, ast.Name) and node.func.id in GENERATORS:
                called.add(node.func)
                if node not in iterated:
                    found.append(f"{path}:{node.lineno}: generator that is not iterated at once")
        for node in ast.walk(tree):
            if isinstance(node, ast.Name) and node.id in GENERATORS and node not in called:
                found.append(f"{path}:{node.lineno}: generator as a value")
    return found


def iterated_in(tree):
    """Returns the expressions that a loop, a comprehension or a builtin iterates over."""
    found = []
    for node in ast.walk(tree):
        if isinstance(node, (ast.For, ast.comprehension)):
            found.append(node.iter)
        if isinstance(node, ast.Call) and isinstance(node.func, ast.Name) and node.func.id in ITERATING:
            found.extend(node.args[:1])
    return found


class Look:
    """One file of the package."""

    def __init__(self, path, tree):
        self.path = path
        self.tree = tree
        self.found = []
        self.docs = set()
        self.imported = [alias.name for node in tree.body if isinstance(node, ast.ImportFrom) for alias in node.names]
        self.own = bound_names(tree)
        self.iterated = iterated_in(tree)
        self.arity = {node.name: node.args for node in tree.body if isinstance(node, ast.FunctionDef)}

    def tell(self, node, message):
        self.found.append(f"{self.path}:{getattr(node, 'lineno', 0)}: {message}")

    def finds(self):
        names = self.imported + self.own
        for name in names:
            if names.count(name) > 1:
                self.tell(self.tree, f"{name} is bound twice")
        self.look_at_top()
        for node in ast.walk(self.tree):
            if isinstance(node, BARRED_NODES):
                self.tell(node, type(node).__name__)
            self.look_at(node)
        return self.found

    def look_at_top(self):
        past_imports = False
        for index, node in enumerate(self.tree.body):
            if index == 0 and isinstance(node, ast.Expr):
                self.docs.add(node.value)
            elif isinstance(node, ast.ImportFrom):
                if past_imports or node.level or not node.module.startswith("viewloom."):
                    self.tell(node, "import")
                if any(alias.asname or alias.name == "*" for alias in node.names):
                    self.tell(node, "import")
            elif isinstance(node, ast.Assign):
                past_imports = True
                if len(node.targets) > 1 or not isinstance(node.targets[0], ast.Name):
                    self.tell(node, "targets at module level")
                self.look_at_module_value(node.value)
            elif isinstance(node, (ast.FunctionDef, ast.ClassDef)):
                past_imports = True
            else:
                self.tell(node, "statement at module level")

    def look_at_module_value(self, value):
        for node in ast.walk(value):
            if isinstance(node, (ast.Call, ast.Attribute, ast.Subscript, ast.ListComp, ast.DictComp, ast.JoinedStr)):
                self.tell(node, "value at module level")
            if isinstance(node, ast.Name) and node.id not in self.own:
                self.tell(node, "name at module level")
            if node is not value and isinstance(node, (ast.List, ast.Dict)):
                self.tell(node, "list within a value at module level")

    def look_at(self, node):
        look = getattr(self, "look_at_" + type(node).__name__.lower(), None)
        if look:
            look(node)

    def look_at_functiondef(self, node):
        if node.end_lineno - node.lineno + 1 > 40:
            self.tell(node, "long function")
        if node.decorator_list and not is_property(node) or node.returns:
            self.tell(node, "decorator or annotation")
        if isinstance(node.body[0], ast.Expr) and isinstance(node.body[0].value, ast.Constant):
            self.docs.add(node.body[0].value)
        arguments = node.args
        if arguments.vararg or arguments.kwarg or arguments.posonlyargs:
            self.tell(node, "parameters")
        if arguments.kwonlyargs and (node.name in METHODS or node.name.startswith("__") and node.name != "__init__"):
            self.tell(node, "parameters that are passed by keyword")
        for value in arguments.defaults + arguments.kw_defaults:
            empty = isinstance(value, ast.Tuple) and not value.elts
            if value is not None and not isinstance(value, ast.Constant) and not empty:
                self.tell(node, "default value")
        for part in ast.walk(node):
            if part is not node and isinstance(part, (ast.FunctionDef, ast.ClassDef)):
                self.tell(part, "nested")
            if isinstance(part, ast.Name) and isinstance(part.ctx, ast.Store):
                self.look_at_name_bound(part, part.id)
        for argument in arguments.args + arguments.kwonlyargs:
            if argument.annotation:
                self.tell(node, "annotation")
            self.look_at_name_bound(node, argument.arg)
        self.look_at_word(node, node.name)

    def look_at_name_bound(self, node, name):
        if name in self.imported or name in self.own and name[0].isupper():
            self.tell(node, f"{name} has the name of an import or a class")
        if name in self.own:
            self.tell(node, f"{name} has the name of a function")
        if hasattr(builtins, name) or name in UNUSED_NAMES:
            self.tell(node, f"{name} has the name of a builtin")
        self.look_at_word(node, name)

    def look_at_word(self, node, name):
        if name in UNUSED_EVERYWHERE or name.startswith("__") and name not in SPECIAL_METHODS:
            self.tell(node, f"name {name}")
        if name.startswith("_") and name != "_" and name not in SPECIAL_METHODS:
            self.tell(node, f"name {name}")

    def look_at_classdef(self, node):
        if node.decorator_list or node.keywords or len(node.bases) > 1:
            self.tell(node, "class")
        if hasattr(builtins, node.name) and node.name not in ("ViewError",):
            self.tell(node, "class with the name of a builtin")
        names = [part.name for part in node.body if isinstance(part, ast.FunctionDef)]
        if len(names) != len(set(names)):
            self.tell(node, "method twice")
        for index, part in enumerate(node.body):
            if isinstance(part, ast.FunctionDef):
                continue
            if isinstance(part, ast.Expr) and index == 0:
                self.docs.add(part.value)
            elif not isinstance(part, ast.Assign):
                self.tell(part, "part of a class")

    def look_at_name(self, node):
        if isinstance(node.ctx, ast.Load) and hasattr(builtins, node.id) and node.id not in BUILTINS | {"property", "NotImplemented"}:
            self.tell(node, f"builtin {node.id}")
        if node.id == "_" and isinstance(node.ctx, ast.Load):
            self.tell(node, "_ is read")

    def look_at_call(self, node):
        if isinstance(node.func, ast.Name):
            self.look_at_plain_call(node)
        elif isinstance(node.func, ast.Attribute):
            if isinstance(node.func.value, ast.Call) and isinstance(node.func.value.func, ast.Name):
                if node.func.value.func.id != "super":
                    self.tell(node, "method of a call")
        else:
            self.tell(node, "call")
        if any(isinstance(argument, ast.Starred) and not isinstance(argument.value, ast.Name) for argument in node.args):
            self.tell(node, "star in a call")

    def look_at_plain_call(self, node):
        name = node.func.id
        keywords = [keyword.arg for keyword in node.keywords]
        if keywords and name in BUILTINS and (name, keywords) != ("max", ["default"]):
            self.tell(node, "keywords")
        if name in self.arity:
            wanted = [argument.arg for argument in self.arity[name].kwonlyargs]
            if not set(keywords) <= set(wanted):
                self.tell(node, "keywords")
        if name in self.arity and len(node.args) != len(self.arity[name].args):
            self.tell(node, "number of arguments")
        if name in ("zip", "enumerate", "reversed", "range") and node not in self.iterated:
            self.tell(node, f"{name} that is not iterated at once")

    def look_at_delete(self, node):
        if not all(isinstance(target, ast.Subscript) for target in node.targets):
            self.tell(node, "del")

    def look_at_try(self, node):
        if node.finalbody:
            self.tell(node, "finally")
        for handler in node.handlers:
            if not isinstance(handler.type, ast.Name) or handler.type.id not in self.imported:
                self.tell(node, "handler")

    def look_at_raise(self, node):
        raised = node.exc
        if not isinstance(raised, ast.Call) or not isinstance(raised.func, ast.Name) or node.cause:
            self.tell(node, "raise")
        elif raised.func.id not in self.imported:
            self.tell(node, "raise")

    def look_at_compare(self, node):
        for sign, other in zip(node.ops, node.comparators):
            if isinstance(sign, (ast.Is, ast.IsNot)):
                if not isinstance(other, ast.Constant) or other.value not in (None, True, False):
                    self.tell(node, "is")

    def look_at_constant(self, node):
        value = node.value
        if isinstance(value, (float, complex)) or value is ...:
            self.tell(node, "number")
        if isinstance(value, (str, bytes)) and node not in self.docs:
            text = value if isinstance(value, str) else ""
            if any(word in UNUSED_WORDS for word in "".join(c if c.isalnum() else " " for c in text).split()):
                self.tell(node, "word in a string")
            if "%" in text or text.endswith(("._", ".__")) or isinstance(value, bytes):
                self.tell(node, "string")
            if any(not " " <= sign <= "~" and sign != "\n" for sign in text):
                self.tell(node, "character in a string")
            if text.startswith("__") and text.endswith("__") and text:
                self.tell(node, "underscores in a string")

    def look_at_joinedstr(self, node):
        for part in node.values:
            if isinstance(part, ast.FormattedValue):
                if part.format_spec or part.conversion not in (-1, ord("r")):
                    self.tell(node, "format")
                for inner in ast.walk(part.value):
                    if isinstance(inner, (ast.JoinedStr, ast.Constant)) and inner is not part.value:
                        if isinstance(getattr(inner, "value", ""), str):
                            self.tell(node, "string in an f-string")

    def look_at_binop(self, node):
        if isinstance(node.op, ast.Pow) and not isinstance(node.right, ast.Constant):
            self.tell(node, "exponent")
