"""Those rules of LANGUAGE.md that a script can test, each as a function that yields what breaks it."""

import ast
import builtins
import re
from pathlib import Path

PACKAGE = Path(__file__).resolve().parent.parent / "takenup"
BUILTINS = set(
    "len range enumerate zip min max sum abs sorted reversed int str bool list tuple dict set isinstance ord repr any"
    " all divmod iter next map staticmethod classmethod property ValueError Exception TypeError KeyError"
    " NotImplemented".split()
)
METHODS = set(
    "append clear copy count endswith extend find get index insert isalnum isalpha isdigit islower isspace isupper"
    " items join keys ljust lower lstrip partition pop remove replace reverse rfind rjust rpartition rsplit rstrip"
    " setdefault split splitlines startswith strip update upper values zfill bit_length title capitalize swapcase"
    " casefold center expandtabs removeprefix removesuffix rindex isascii isdecimal isnumeric istitle isidentifier"
    " isprintable add discard".split()
)
BARRED_ATTRIBUTES = set(
    "items keys values pop update append clear extend insert remove reverse setdefault sort args encode decode hex"
    " fromhex format format_map mro as_integer_ratio bit_count conjugate from_bytes is_integer to_bytes".split()
)
BARRED_NAMES = set("register mro elements open input law version_info with_traceback add_note".split())
BARRED_BINDINGS = set(
    "attrgetter breakpoint builtins compile copyright credits delattr dir eval exec exit gc getattr globals hasattr"
    " help id importlib license locals methodcaller os quit setattr super type vars sys".split()
)
BARRED_WORDS = set(
    "type typing typing_extensions enum Enum IntEnum StrEnum Flag IntFlag Generic Protocol ABC ABCMeta namedtuple"
    " NamedTuple TypedDict TYPE_CHECKING abstractmethod".split()
)
DUNDERS = set(
    "init eq repr str len enter exit call iter lt le gt ge ne add sub mul floordiv mod pow and or xor lshift rshift"
    " neg pos invert abs bool contains getitem setitem".split()
)
CHANGING = set("append clear extend insert pop remove reverse setdefault update add discard".split())
PROPERTIES = set("number_words node_words plain_words sums program tape things lines".split())
STATEMENTS = (
    ast.Assign, ast.AugAssign, ast.If, ast.While, ast.For, ast.Return, ast.Break, ast.Continue, ast.Pass, ast.Raise,
    ast.Assert, ast.Delete, ast.Nonlocal, ast.With, ast.Try, ast.Expr, ast.FunctionDef, ast.ClassDef, ast.ImportFrom,
)


class Source:
    """A file of the package."""

    def __init__(self, path):
        self.name = path.name
        self.module = "takenup" if path.stem == "__init__" else f"takenup.{path.stem}"
        self.text = path.read_text(encoding="utf-8")
        self.tree = ast.parse(self.text)
        self.lines = self.text.splitlines()

    def nodes(self, *kinds):
        return [node for node in ast.walk(self.tree) if isinstance(node, kinds)]

    def functions(self):
        return self.nodes(ast.FunctionDef)

    def classes(self):
        return self.nodes(ast.ClassDef)

    def at(self, node, words):
        return f"{self.name}:{node.lineno}: {words}"


def sources():
    return [Source(path) for path in sorted(PACKAGE.glob("*.py"))]


def bound_names(source):
    """The pairs of a node and a name that it binds as a variable, a parameter, a function or a class."""
    for node in ast.walk(source.tree):
        if isinstance(node, ast.Name) and isinstance(node.ctx, ast.Store):
            yield node, node.id
        elif isinstance(node, ast.arg):
            yield node, node.arg
        elif isinstance(node, ast.ExceptHandler) and node.name:
            yield node, node.name


def method_names(source):
    for kind in source.classes():
        for node in kind.body:
            if isinstance(node, ast.FunctionDef):
                yield kind, node


def strings(source):
    """The string constants that are no docstrings, parts of f-strings too."""
    docs = set()
    for node in source.nodes(ast.Module, ast.FunctionDef, ast.ClassDef):
        first = node.body[0] if node.body else None
        if isinstance(first, ast.Expr) and isinstance(first.value, ast.Constant):
            docs.add(id(first.value))
    return [node for node in source.nodes(ast.Constant) if isinstance(node.value, str) and id(node) not in docs]


def l1_files(source):
    if not re.fullmatch(r"[a-z_][a-z0-9_]*\.py", source.name):
        yield source.name


def l2_imports(source):
    at_top = True
    for node in source.tree.body:
        if isinstance(node, ast.ImportFrom):
            if not at_top:
                yield source.at(node, "L2: an import that does not stand at the top")
        elif not (isinstance(node, ast.Expr) and isinstance(node.value, ast.Constant)):
            at_top = False
    for node in source.nodes(ast.Import):
        yield source.at(node, "L16: import without from")
    for node in source.nodes(ast.ImportFrom):
        if node.level or not node.module.startswith("takenup."):
            yield source.at(node, f"L2: import from {node.module}")
            continue
        other = Source(PACKAGE / (node.module.split(".")[1] + ".py"))
        for alias in node.names:
            if alias.asname or alias.name not in top_names(other):
                yield source.at(node, f"L16: {alias.name} is not defined in {node.module}")


def top_names(source):
    names = []
    for node in source.tree.body:
        if isinstance(node, (ast.FunctionDef, ast.ClassDef)):
            names.append(node.name)
        elif isinstance(node, ast.Assign):
            names.extend(target.id for target in node.targets if isinstance(target, ast.Name))
    return names


def no_import_that_is_not_used(source):
    used = {node.id for node in source.nodes(ast.Name)}
    for node in source.nodes(ast.ImportFrom):
        for alias in node.names:
            if alias.name not in used:
                yield source.at(node, f"{alias.name} is not used")


def l3_module_level(source):
    for node in source.tree.body:
        if isinstance(node, ast.Expr) and isinstance(node.value, ast.Constant) and node is source.tree.body[0]:
            continue
        if isinstance(node, (ast.ImportFrom, ast.FunctionDef, ast.ClassDef)):
            continue
        if isinstance(node, ast.Assign) and len(node.targets) == 1 and isinstance(node.targets[0], ast.Name):
            if is_function_table(source, node):
                continue
            try:
                value = ast.literal_eval(node.value)
            except ValueError:
                yield source.at(node, "L3: not a plain value")
                continue
            inner = value.values() if isinstance(value, dict) else value if isinstance(value, (list, tuple)) else ()
            if any(isinstance(item, (list, dict, set)) for item in inner):
                yield source.at(node, "L15: a list or dict within a list, dict or tuple")
            continue
        yield source.at(node, "L3: statement at module level")


def is_function_table(source, node):
    """Whether a dict of plain keys and of functions that are defined above it is assigned."""
    above = {one.name for one in source.tree.body if isinstance(one, ast.FunctionDef) and one.lineno < node.lineno}
    return isinstance(node.value, ast.Dict) and all(
        isinstance(key, ast.Constant) and isinstance(value, ast.Name) and value.id in above
        for key, value in zip(node.value.keys, node.value.values)
    )


def is_setter(node):
    return any(isinstance(one, ast.Attribute) and one.attr == "setter" for one in node.decorator_list)


def l4_functions(source):
    for node in source.functions():
        for decorator in node.decorator_list:
            is_plain_name = isinstance(decorator, ast.Name) and decorator.id in ("property", "staticmethod")
            if not is_plain_name and not (is_setter(node) and decorator.value.id == node.name):
                yield source.at(node, "L4: decorator")
        for default in node.args.defaults + [one for one in node.args.kw_defaults if one is not None]:
            try:
                ast.literal_eval(default)
            except ValueError:
                yield source.at(node, "L4: default value")
    for node in source.nodes(ast.AsyncFunctionDef, ast.Global, ast.Await, ast.Match):
        yield source.at(node, "L6: statement")


def l5_classes(source):
    for kind in source.classes():
        if kind.decorator_list or kind.keywords:
            yield source.at(kind, "L5: decorator or keyword of a class")
        names = []
        for node in kind.body:
            if isinstance(node, ast.FunctionDef):
                if not is_setter(node):
                    names.append(node.name)
            elif isinstance(node, ast.Assign):
                if not is_class_value(node):
                    yield source.at(node, "L5: class value")
                names.extend(target.id for target in node.targets)
            elif not (isinstance(node, ast.Expr) and isinstance(node.value, ast.Constant)):
                yield source.at(node, "L5: body of a class")
        if len(set(names)) != len(names):
            yield source.at(kind, "L18: defined twice")
        if "__getitem__" in names and "__iter__" not in names:
            yield source.at(kind, "L5: __getitem__ without __iter__")
        assigned = {
            node.attr for node in ast.walk(kind)
            if isinstance(node, ast.Attribute) and isinstance(node.ctx, ast.Store)
        }
        for name in assigned & set(names):
            yield source.at(kind, f"L18: {name} is a method and an attribute")


def is_class_value(node):
    try:
        value = ast.literal_eval(node.value)
    except ValueError:
        return False
    items = value if isinstance(value, tuple) else (value,)
    return len(node.targets) == 1 and all(isinstance(item, (int, str, bool)) for item in items)


def l5_double_underscores(source):
    methods = {id(node) for _, node in method_names(source)}
    for node in source.functions():
        if not node.name.startswith("__"):
            continue
        if id(node) not in methods or node.name.strip("_") not in DUNDERS:
            yield source.at(node, f"L5: {node.name}")
        returns = [one.value for one in ast.walk(node) if isinstance(one, ast.Return)]
        if node.name == "__init__" and returns:
            yield source.at(node, "L28: __init__ returns")
        if node.name == "__iter__" and not is_iter(node):
            yield source.at(node, "L5: form of __iter__")
        if node.name == "__len__" and not all(is_call(one, "len") or is_number(one) for one in returns):
            yield source.at(node, "L28: form of __len__")
        if node.name in ("__str__", "__repr__") and not all(is_text(one) for one in returns):
            yield source.at(node, "L28: form of __str__")
        if node.name in ("__eq__", "__str__", "__len__", "__repr__", "__bool__", "__iter__"):
            if not isinstance(node.body[-1], ast.Return):
                yield source.at(node, "L28: last statement")
        for one in ast.walk(node):
            if isinstance(one, (ast.Attribute, ast.Subscript)) and isinstance(one.ctx, ast.Store):
                if node.name not in ("__init__", "__enter__", "__exit__", "__call__"):
                    yield source.at(one, f"L5: {node.name} changes something")


def is_iter(node):
    one = node.body[-1]
    return len(node.body) == 1 and isinstance(one, ast.Return) and is_call(one.value, "iter")


def is_call(node, name):
    return isinstance(node, ast.Call) and isinstance(node.func, ast.Name) and node.func.id == name


def is_number(node):
    return isinstance(node, ast.Constant) and isinstance(node.value, int)


def is_text(node):
    if isinstance(node, ast.JoinedStr) or is_call(node, "str") or is_call(node, "repr"):
        return True
    if isinstance(node, ast.Constant):
        return isinstance(node.value, str)
    return is_join(node)


def is_join(node):
    return (
        isinstance(node, ast.Call) and isinstance(node.func, ast.Attribute) and node.func.attr == "join"
        and isinstance(node.func.value, ast.Constant)
    )


def l6_statements(source):
    for node in source.nodes(ast.stmt):
        if not isinstance(node, STATEMENTS):
            yield source.at(node, f"L6: {type(node).__name__}")
    for node in source.nodes(ast.Expr):
        if not isinstance(node.value, (ast.Call, ast.Constant, ast.Yield, ast.YieldFrom)):
            yield source.at(node, "L6: an expression on its own")


def l7_expressions(source):
    for node in source.nodes(ast.GeneratorExp, ast.Div, ast.Set, ast.SetComp, ast.Await):
        yield f"{source.name}: L7, L24: {type(node).__name__}"
    for node in source.nodes(ast.Constant):
        if isinstance(node.value, (float, complex, bytes)):
            yield source.at(node, "L7: float or bytes")
    for node in source.nodes(ast.Call):
        for one in [arg.value for arg in node.args if isinstance(arg, ast.Starred)]:
            if not is_plain_beside_stars(one):
                yield source.at(node, "L7: behind a star")
        for one in [word.value for word in node.keywords if word.arg is None]:
            if not isinstance(one, (ast.Name, ast.Attribute)) or not is_plain_beside_stars(one):
                yield source.at(node, "L7: behind two stars")
        if sum(isinstance(arg, ast.Starred) for arg in node.args) > 1:
            yield source.at(node, "L7: several stars")
        if any(word.arg is None for word in node.keywords):
            if len(node.keywords) > 1 or not all(is_plain_beside_stars(arg) for arg in node.args):
                yield source.at(node, "L7: beside two stars")
    for node in source.nodes(ast.stmt):
        lambdas = [one for one in ast.walk(node) if isinstance(one, ast.Lambda)]
        rows = [(one.lineno, tuple(arg.arg for arg in one.args.args)) for one in lambdas]
        if len(set(rows)) != len(rows):
            yield source.at(node, "L13: two lambdas on a line")


def is_plain_beside_stars(node):
    """Whether a name, an attribute off a name, a literal, or a list, tuple or dict of these stands there."""
    if isinstance(node, (ast.List, ast.Tuple)):
        return all(is_plain_beside_stars(one) for one in node.elts)
    if isinstance(node, ast.Dict):
        return all(is_plain_beside_stars(one) for one in node.keys + node.values)
    return isinstance(node, (ast.Name, ast.Constant)) or isinstance(node, ast.Attribute) and isinstance(
        node.value, ast.Name
    ) and node.attr not in PROPERTIES


def l8_builtins(source):
    known = set(top_names(source)) | {
        alias.name for node in source.nodes(ast.ImportFrom) for alias in node.names
    } | {name for _, name in bound_names(source)}
    for node in source.nodes(ast.Name):
        if node.id not in known and node.id not in BUILTINS:
            yield source.at(node, f"L8: {node.id}")


def l10_size(source):
    if len(source.lines) > 399:
        yield f"{source.name}: L10: {len(source.lines)} lines"
    for at, line in enumerate(source.lines, 1):
        if len(line) > 120 or "\t" in line:
            yield f"{source.name}:{at}: L10: long line or tab"
    for node in source.functions():
        if node.end_lineno - node.lineno + 1 > 40:
            yield source.at(node, "L10: long function")


def l12_names(source):
    for node, name in bound_names(source):
        if not re.fullmatch(r"_?[A-Za-z][A-Za-z0-9_]*|_", name):
            yield source.at(node, f"L12: {name}")
    for node in source.nodes(ast.Name):
        if node.id == "_" and isinstance(node.ctx, ast.Load):
            yield source.at(node, "L12: _ is read")


def l14_characters(source):
    for at, line in enumerate(source.text.split("\n"), 1):
        if any(not " " <= sign <= "~" for sign in line):
            yield f"{source.name}:{at}: L14: character"


def l15_bindings(source):
    imported = [alias.name for node in source.nodes(ast.ImportFrom) for alias in node.names]
    top = imported + top_names(source)
    for name in {name for name in top if top.count(name) > 1}:
        yield f"{source.name}: L15: {name} is bound twice"
    classes = {node.name for node in source.classes()}
    for node, name in bound_names(source):
        if name in imported or name in classes:
            yield source.at(node, f"L15: {name} is an import or a class")
        if name in dir(builtins):
            yield source.at(node, f"L15: {name} is a builtin")
    methods = {id(node) for _, node in method_names(source)}
    for node in source.functions():
        if id(node) not in methods and node.name in dir(builtins):
            yield source.at(node, f"L15: {node.name} is a builtin")


def l17_names(source):
    bindings = list(bound_names(source)) + [(node, node.name) for node in source.functions()]
    for node, name in bindings:
        if name in BARRED_NAMES or name in BARRED_BINDINGS or name in BARRED_WORDS:
            yield source.at(node, f"L17: {name}")
    for node in source.nodes(ast.Attribute):
        if node.attr in BARRED_NAMES or node.attr.startswith("__") and node.attr != "__init__":
            yield source.at(node, f"L17: {node.attr}")
    for node in strings(source):
        for word in re.findall(r"[A-Za-z_]+", node.value):
            if word in BARRED_WORDS - {"type"}:
                yield source.at(node, f"L17: {word}")


def l19_errors(source):
    for node in source.nodes(ast.Raise):
        if not (isinstance(node.exc, ast.Call) and isinstance(node.exc.func, ast.Name)):
            yield source.at(node, "L19: raise")
        elif node.exc.keywords:
            yield source.at(node, "L19: keywords of an error")
    for node in source.nodes(ast.ExceptHandler):
        if node.type is None:
            yield source.at(node, "L19: bare except")


def l20_is(source):
    for node in source.nodes(ast.Compare):
        for sign, one in zip(node.ops, node.comparators):
            if isinstance(sign, (ast.Is, ast.IsNot)):
                if not (isinstance(one, ast.Constant) and (one.value is None or isinstance(one.value, bool))):
                    yield source.at(node, "L20: is")


def l21_annotations(source):
    for node in source.nodes(ast.AnnAssign):
        yield source.at(node, "L21: annotation")
    for node in source.functions():
        if node.returns is not None:
            yield source.at(node, "L21: annotation")
    for node in source.nodes(ast.arg):
        if node.annotation is not None:
            yield source.at(node, "L21: annotation")


def l22_calls(source):
    for node in source.nodes(ast.Call):
        if isinstance(node.func, ast.Name) and node.func.id in BUILTINS and node.keywords:
            yield source.at(node, "L22: keywords of a builtin")
        if is_call(node, "sorted") or is_call(node, "min") or is_call(node, "max"):
            if not all(is_plain_row(arg) or is_plain(arg) for arg in node.args):
                yield source.at(node, "L5: what is sorted or measured is not plainly numbers or strings")
    called = {id(node.func) for node in source.nodes(ast.Call)}
    for node in source.nodes(ast.Name):
        if node.id in BUILTINS and id(node) not in called and not is_mention(source, node):
            yield source.at(node, f"L22: {node.id} is not called")


def is_mention(source, node):
    """Whether a builtin's name stands in isinstance, as a base class, as a decorator or as NotImplemented."""
    if node.id == "NotImplemented":
        return True
    for call in source.nodes(ast.Call):
        if is_call(call, "isinstance") and node in list(ast.walk(call.args[1])):
            return True
    for kind in source.classes():
        if node in kind.bases:
            return True
    return any(node in function.decorator_list for function in source.functions())


def is_plain(node):
    if isinstance(node, ast.Constant):
        return isinstance(node.value, (int, str))
    return any(is_call(node, name) for name in ("len", "int", "ord", "str", "repr"))


def is_plain_row(node):
    return isinstance(node, ast.ListComp) and is_plain(node.elt) or is_call(node, "range")


def l23_iterated_at_once(source):
    parents = {id(child): node for node in ast.walk(source.tree) for child in ast.iter_child_nodes(node)}
    for node in source.nodes(ast.Call):
        lazy = isinstance(node.func, ast.Name) and node.func.id in ("zip", "enumerate", "reversed", "map")
        view = isinstance(node.func, ast.Attribute) and node.func.attr in ("items", "keys", "values")
        if not lazy and not view:
            continue
        parent = parents[id(node)]
        if isinstance(parent, (ast.For, ast.comprehension)):
            continue
        if not any(is_call(parent, name) for name in ("list", "tuple", "dict", "sorted", "sum", "enumerate", "zip")):
            yield source.at(node, "L23: not iterated at once")


def l25_methods(source, own):
    for node in source.nodes(ast.Call):
        if isinstance(node.func, ast.Attribute):
            name = node.func.attr
            if name not in METHODS and name not in own and name != "__init__":
                yield source.at(node, f"L25: {name}")
            if name in METHODS and name not in own and node.keywords:
                yield source.at(node, f"L25: keywords of {name}")


def l26_attributes(source):
    for node in source.nodes(ast.Attribute):
        if isinstance(node.ctx, ast.Store) and node.attr in BARRED_ATTRIBUTES:
            yield source.at(node, f"L26: {node.attr}")


def l27_numbers_and_strings(source):
    for node in source.nodes(ast.BinOp):
        if isinstance(node.op, ast.Pow):
            yield source.at(node, "L27: exponent")
    for node in source.nodes(ast.Constant):
        if isinstance(node.value, str):
            if "%" in node.value:
                yield source.at(node, "L27: a string with the sign for remainders")
            if node.value.startswith("__") and node.value.endswith("__") and node.value:
                yield source.at(node, "L27: underscores")


def l28_base_init(source):
    inits = [node for _, node in method_names(source) if node.name == "__init__"]
    inside = {id(one) for node in inits for one in ast.walk(node)}
    for node in source.nodes(ast.Call):
        if isinstance(node.func, ast.Attribute) and node.func.attr == "__init__" and id(node) not in inside:
            yield source.at(node, "L28: __init__ is called")


def operator_changes(source):
    """Operators, properties and the like that call what changes something on what they did not create."""
    for _, node in method_names(source):
        is_property = any(isinstance(one, ast.Name) and one.id == "property" for one in node.decorator_list)
        if not is_property and not (node.name.startswith("__") and node.name not in ("__init__", "__call__")):
            continue
        for call in ast.walk(node):
            if isinstance(call, ast.Call) and isinstance(call.func, ast.Attribute) and call.func.attr in CHANGING:
                yield source.at(call, f"L5: {node.name} changes something")


ONE_BY_ONE = (
    l1_files, l2_imports, no_import_that_is_not_used, l3_module_level, l4_functions, l5_classes, l5_double_underscores, l6_statements,
    l7_expressions, l8_builtins, l10_size, l12_names, l14_characters, l15_bindings, l17_names, l19_errors, l20_is,
    l21_annotations, l22_calls, l23_iterated_at_once, l26_attributes, l27_numbers_and_strings, l28_base_init,
    operator_changes,
)
