"""Finds what in a package's files lies outside ../shared/LANGUAGE.md, as far as it can be seen.

faults({"name.py": source, ..}) gives back a list of (rule, file, line). Where a rule leaves a
choice, the narrower side is asked for here: no annotation, no lambda, no def within a def, no
set, no text with an escape but a line feed.
"""

import ast
import builtins
import io
import re
import tokenize

PACKAGE = "movetables"

STATEMENTS = (ast.Assign, ast.AugAssign, ast.If, ast.While, ast.For, ast.Return, ast.Break, ast.Continue, ast.Pass,
              ast.Raise, ast.Try, ast.Expr)
EXPRESSIONS = (ast.Constant, ast.List, ast.Tuple, ast.Dict, ast.BinOp, ast.UnaryOp, ast.BoolOp, ast.Compare, ast.IfExp,
               ast.Call, ast.Attribute, ast.Subscript, ast.Slice, ast.ListComp, ast.JoinedStr, ast.FormattedValue,
               ast.Name)
ERRORS = ("Exception ValueError TypeError KeyError IndexError LookupError ZeroDivisionError ArithmeticError OverflowError "
          "RuntimeError NotImplementedError AttributeError StopIteration").split()
OWN_NAMES_OF_PYTHON = ("len range enumerate zip min max sum abs sorted reversed int str bool list tuple dict set frozenset "
                       "isinstance ord repr any all divmod True False None").split() + ERRORS
METHODS = ("append clear copy count endswith extend find get index insert isalnum isalpha isdigit islower isspace isupper "
           "items join keys ljust lower lstrip partition pop remove replace reverse rfind rjust rpartition rsplit rstrip "
           "setdefault split splitlines startswith strip update upper values zfill bit_length").split()
CHANGING = "append clear extend insert pop remove reverse setdefault update".split()
UNDERSCORED = "__init__ __eq__ __repr__ __str__ __len__".split()
VALUES_LIKE_METHODS = "count index title find get join lower upper split strip copy add".split()
NAMES_OUT = ("register mro elements open input version_info with_traceback add_note attrgetter breakpoint builtins compile "
             "copyright credits delattr dir eval exec exit gc getattr globals hasattr help id importlib license locals "
             "methodcaller os quit setattr super type vars sys format format_map").split()
WORDS_OUT = ("type typing typing_extensions enum Enum IntEnum StrEnum Flag IntFlag Generic Protocol ABC ABCMeta namedtuple "
             "NamedTuple TypedDict TYPE_CHECKING abstractmethod").split()
PARTS_OUT = "dataclass overload contextmanager".split()
FILES_OUT = "test tests testing site conftest sitecustomize usercustomize".split()
WALKED = "zip enumerate reversed range items keys values".split()
WALKERS = "list tuple dict sorted sum any all enumerate zip".split()
KEYWORDS = {"sorted": ["key", "reverse"], "min": ["key", "default"], "max": ["key", "default"], "sum": ["start"],
            "enumerate": ["start"], "zip": ["strict"]}
TAKEN = [name for kind in (str, int, list, dict, set, bytes, tuple) for name in dir(kind)]


def file_faults(name, source):
    stem = name[:-3]
    if not re.fullmatch(r"(__init__|[a-z][a-z0-9_]*)\.py", name):
        yield "L1", 0
    if stem in FILES_OUT or stem in WORDS_OUT or stem in dir(builtins) or stem.startswith("test_"):
        yield "L14", 0
    lines = source.split("\n")
    if len(lines) > 401:
        yield "L10", 401
    for number, line in enumerate(lines, 1):
        if len(line) > 120:
            yield "L10", number
        if not all(" " <= sign <= "~" for sign in line):
            yield "L14", number
        words = re.findall(r"\w+", line)
        if set(words) & set(WORDS_OUT) or any(part in line for part in PARTS_OUT):
            yield "L17", number


def text_faults(source):
    for token in tokenize.generate_tokens(io.StringIO(source).readline):
        if token.type == tokenize.STRING:
            if "%" in token.string or re.search(r"\\[^n]", token.string):
                yield "L27", token.start[0]
            if re.match(r"[A-Za-z]*[bB]", token.string):
                yield "L7", token.start[0]


def is_docstring(node):
    return isinstance(node, ast.Expr) and isinstance(node.value, ast.Constant) and isinstance(node.value.value, str)


def is_plain(node):
    if isinstance(node, ast.UnaryOp):
        return isinstance(node.op, ast.USub) and is_plain(node.operand)
    if isinstance(node, (ast.Tuple, ast.List)):
        return all(is_plain(one) for one in node.elts)
    if isinstance(node, ast.Dict):
        return all(one is not None and is_plain(one) for one in node.keys + node.values)
    if isinstance(node, ast.Constant):
        return node.value is None or isinstance(node.value, (int, str))
    return isinstance(node, ast.Name)


def top_faults(tree):
    for place, node in enumerate(tree.body):
        plain = isinstance(node, ast.Assign) and isinstance(node.targets[0], ast.Name) and is_plain(node.value)
        kept = isinstance(node, (ast.ImportFrom, ast.FunctionDef, ast.ClassDef))
        if not (plain or kept or (place == 0 and is_docstring(node))):
            yield "L3", node.lineno
        if plain and isinstance(node.value, (ast.List, ast.Dict)):
            inner = node.value.elts if isinstance(node.value, ast.List) else node.value.values
            if any(isinstance(one, (ast.List, ast.Dict)) for one in inner):
                yield "L15", node.lineno
    names = [name for name, line in top_names(tree)]
    for name, line in top_names(tree):
        if names.count(name) > 1 or name in dir(builtins):
            yield "L15", line


def top_names(tree):
    for node in tree.body:
        if isinstance(node, (ast.FunctionDef, ast.ClassDef)):
            yield node.name, node.lineno
        elif isinstance(node, ast.ImportFrom):
            for one in node.names:
                yield one.asname or one.name, node.lineno
        elif isinstance(node, ast.Assign) and isinstance(node.targets[0], ast.Name):
            yield node.targets[0].id, node.lineno


def import_faults(tree, trees):
    for node in ast.walk(tree):
        if isinstance(node, ast.Import) or (isinstance(node, ast.ImportFrom) and node not in tree.body):
            yield "L2", node.lineno
        elif isinstance(node, ast.ImportFrom):
            whole = (node.module or "").split(".")
            file = whole[-1] + ".py"
            if node.level or len(whole) != 2 or whole[0] != PACKAGE:
                yield "L2", node.lineno
            elif file not in trees:
                yield "L16", node.lineno
            else:
                own = [one.name for one in trees[file].body if isinstance(one, (ast.FunctionDef, ast.ClassDef))]
                own += [one.targets[0].id for one in trees[file].body if isinstance(one, ast.Assign)]
                for one in node.names:
                    if one.name not in own or one.asname:
                        yield "L16", node.lineno


def drawn_from(tree):
    return [node.module.split(".")[-1] + ".py" for node in tree.body
            if isinstance(node, ast.ImportFrom) and node.module] + ["__init__.py"]


def circle_faults(name, trees):
    seen = []
    waiting = drawn_from(trees[name]) if name != "__init__.py" else drawn_from(trees[name])[:-1]
    while waiting:
        file = waiting.pop()
        if file in trees and file not in seen:
            seen.append(file)
            waiting += drawn_from(trees[file])
    if name in seen and name != "__init__.py" or name == "__init__.py" and seen:
        yield "L16", 0


def def_faults(node, parents):
    args = node.args
    if args.vararg or args.kwarg or args.kwonlyargs or args.posonlyargs or node.decorator_list:
        yield "L4", node.lineno
    if not all(is_plain(one) for one in args.defaults):
        yield "L4", node.lineno
    if node.returns or any(one.annotation for one in args.args):
        yield "L21", node.lineno
    if not isinstance(parents[node], (ast.Module, ast.ClassDef)):
        yield "L4", node.lineno
    if node.end_lineno - node.lineno + 1 > 40:
        yield "L10", node.lineno
    if node.name.startswith("_") and node.name not in UNDERSCORED:
        yield "L12", node.lineno
    returns = [one for one in ast.walk(node) if isinstance(one, ast.Return)]
    if node.name == "__init__" and any(one.value is not None for one in returns):
        yield "L28", node.lineno


def class_faults(node, parents):
    if not isinstance(parents[node], ast.Module):
        yield "L15", node.lineno
    if node.decorator_list or node.keywords or len(node.bases) > 1:
        yield "L5", node.lineno
    for one in node.body:
        if not isinstance(one, (ast.FunctionDef, ast.Pass)):
            yield "L5", one.lineno
    methods = [one.name for one in node.body if isinstance(one, ast.FunctionDef)]
    if len(methods) > len(set(methods)):
        yield "L18", node.lineno


def statement_faults(node, parents):
    top = isinstance(parents[node], ast.Module)
    if not isinstance(node, STATEMENTS + (ast.FunctionDef, ast.ClassDef, ast.ImportFrom, ast.Import)):
        yield "L6", node.lineno
    if isinstance(node, ast.Assign) and (len(node.targets) > 1 or isinstance(node.targets[0], (ast.Tuple, ast.List))):
        yield "L6", node.lineno
    if isinstance(node, ast.Expr) and not isinstance(node.value, ast.Call) and not (top and is_docstring(node)):
        yield "L6", node.lineno
    if isinstance(node, (ast.For, ast.While)) and node.orelse:
        yield "L6", node.lineno
    if isinstance(node, ast.Try):
        if node.finalbody:
            yield "L6", node.lineno
        for one in node.handlers:
            if not isinstance(one.type, ast.Name) or one.type.id in ("Exception", "TypeError"):
                yield "L19", one.lineno
    if isinstance(node, ast.Raise) and not isinstance(node.exc, ast.Call):
        yield "L19", node.lineno
    if isinstance(node, ast.For):
        yield from walk_faults(node)


def walk_faults(loop):
    walked = loop.iter
    while isinstance(walked, ast.Call) and walked.args or isinstance(walked, ast.Call) and isinstance(walked.func, ast.Attribute):
        walked = walked.args[0] if walked.args else walked.func.value
    told = ast.dump(walked)
    for node in [one for statement in loop.body for one in ast.walk(statement)]:
        changed = None
        if isinstance(node, ast.Call) and isinstance(node.func, ast.Attribute) and node.func.attr in CHANGING:
            changed = node.func.value
        elif isinstance(node, ast.Subscript) and isinstance(node.ctx, ast.Store):
            changed = node.value
        if changed is not None and ast.dump(changed) == told:
            yield "L23", node.lineno


def expression_faults(node, parents):
    if not isinstance(node, EXPRESSIONS):
        yield "L7", node.lineno
    if isinstance(node, ast.Constant) and isinstance(node.value, (float, bytes, complex)):
        yield "L7", node.lineno
    if isinstance(node, ast.BinOp) and isinstance(node.op, (ast.Div, ast.MatMult)):
        yield "L7", node.lineno
    if isinstance(node, ast.BinOp) and isinstance(node.op, ast.Pow) and not isinstance(node.right, ast.Constant):
        yield "L27", node.lineno
    if isinstance(node, ast.ListComp) and (len(node.generators) > 1 or len(node.generators[0].ifs) > 1):
        yield "L7", node.lineno
    if isinstance(node, ast.FormattedValue) and not isinstance(node.value, ast.Name):
        yield "L7", node.lineno
    if isinstance(node, ast.Compare):
        for operator, right in zip(node.ops, node.comparators):
            plain = isinstance(right, ast.Constant) and (right.value is None or isinstance(right.value, bool))
            if isinstance(operator, (ast.Is, ast.IsNot)) and not plain:
                yield "L20", node.lineno
    if isinstance(node, ast.Call):
        yield from call_faults(node, parents)


def called_name(node):
    if isinstance(node.func, ast.Attribute):
        return node.func.attr
    return node.func.id if isinstance(node.func, ast.Name) else ""


def call_faults(node, parents):
    name = called_name(node)
    parent = parents[node]
    bare = isinstance(node.func, ast.Name)
    for keyword in node.keywords:
        if keyword.arg not in KEYWORDS.get(name, []) or not bare:
            yield "L22", node.lineno
    if name in WALKED:
        behind_in = isinstance(parent, (ast.For, ast.comprehension)) and parent.iter is node
        within = (isinstance(parent, ast.Call) and isinstance(parent.func, ast.Name) and parent.args[0] is node
                  and (called_name(parent) in WALKERS or called_name(parent) in ("min", "max") and len(parent.args) == 1))
        if not (behind_in or within):
            yield "L23", node.lineno
    if bare and name in ("set", "frozenset", "chr"):
        straight = isinstance(parent, ast.Call) and called_name(parent) in ("sorted", "len")
        if name == "chr" or not straight and not isinstance(parent, ast.Compare):
            yield "L24" if name != "chr" else "L27", node.lineno
    if bare and name == "isinstance" and not isinstance(node.args[1], (ast.Name, ast.Tuple)):
        yield "L22", node.lineno


def stored_in(function):
    names = [(one.arg, one.lineno) for one in function.args.args]
    for node in ast.walk(function):
        if isinstance(node, ast.Name) and isinstance(node.ctx, ast.Store):
            names.append((node.id, node.lineno))
        elif isinstance(node, ast.ExceptHandler) and node.name:
            names.append((node.name, node.lineno))
    return names


def name_faults(tree):
    tops = [name for name, line in top_names(tree)]
    not_for_locals = [name for node in tree.body if isinstance(node, ast.ImportFrom) for name in [one.name for one in node.names]]
    not_for_locals += [node.name for node in tree.body if isinstance(node, ast.ClassDef)]
    for function in [node for node in ast.walk(tree) if isinstance(node, ast.FunctionDef)]:
        stored = stored_in(function)
        for name, line in stored:
            if name in not_for_locals or name in dir(builtins):
                yield "L15", line
        known = [name for name, line in stored] + tops + OWN_NAMES_OF_PYTHON
        for node in ast.walk(function):
            if isinstance(node, ast.Name) and node.id not in known:
                yield "L8", node.lineno
    for node in ast.walk(tree):
        name = node.id if isinstance(node, ast.Name) else node.attr if isinstance(node, ast.Attribute) else None
        if name in NAMES_OUT:
            yield "L17", node.lineno
        if name is not None and name.startswith("_") and name not in UNDERSCORED:
            yield "L12", node.lineno


def top_list_faults(tree):
    lists = [node.targets[0].id for node in tree.body
             if isinstance(node, ast.Assign) and isinstance(node.value, (ast.List, ast.Dict))]
    for node in ast.walk(tree):
        if isinstance(node, ast.Call) and isinstance(node.func, ast.Attribute) and node.func.attr in CHANGING:
            if isinstance(node.func.value, ast.Name) and node.func.value.id in lists:
                yield "L15", node.lineno
        if isinstance(node, ast.Subscript) and isinstance(node.ctx, ast.Store):
            if isinstance(node.value, ast.Name) and node.value.id in lists:
                yield "L15", node.lineno
        if isinstance(node, ast.Return) and isinstance(node.value, ast.Name) and node.value.id in lists:
            yield "L15", node.lineno


def members(trees):
    """The package's own methods, and the values that its objects keep."""
    methods, values = [], []
    for tree in trees.values():
        for node in ast.walk(tree):
            if isinstance(node, ast.ClassDef):
                methods += [one.name for one in node.body if isinstance(one, ast.FunctionDef)]
            elif isinstance(node, ast.Attribute) and isinstance(node.ctx, ast.Store):
                values.append(node.attr)
    return methods, values


def attribute_faults(tree, parents, methods, values):
    for node in ast.walk(tree):
        if not isinstance(node, ast.Attribute):
            continue
        called = isinstance(parents[node], ast.Call) and parents[node].func is node
        if called and node.attr not in METHODS + methods:
            yield "L25", node.lineno
        if not called and node.attr not in values:
            yield "L25", node.lineno
        if isinstance(node.ctx, ast.Store):
            if node.attr in methods:
                yield "L18", node.lineno
            if node.attr in TAKEN and node.attr not in VALUES_LIKE_METHODS or node.attr in ("sort", "args", "encode"):
                yield "L26", node.lineno
    for node in ast.walk(tree):
        if isinstance(node, ast.ClassDef):
            for one in node.body:
                free = isinstance(one, ast.FunctionDef) and one.name in METHODS + UNDERSCORED + ["add", "discard"]
                if isinstance(one, ast.FunctionDef) and one.name in TAKEN and not free:
                    yield "L26", one.lineno


def parents_of(tree):
    return {child: node for node in ast.walk(tree) for child in ast.iter_child_nodes(node)}


def node_faults(tree, parents):
    for node in ast.walk(tree):
        if isinstance(node, ast.FunctionDef):
            yield from def_faults(node, parents)
        if isinstance(node, ast.ClassDef):
            yield from class_faults(node, parents)
        if isinstance(node, ast.AnnAssign):
            yield "L21", node.lineno
        if isinstance(node, ast.stmt):
            yield from statement_faults(node, parents)
        if isinstance(node, ast.expr):
            yield from expression_faults(node, parents)


def faults(sources):
    trees = {name: ast.parse(source) for name, source in sources.items()}
    methods, values = members(trees)
    found = []
    for name, source in sources.items():
        tree = trees[name]
        parents = parents_of(tree)
        for part in (file_faults(name, source), text_faults(source), top_faults(tree), import_faults(tree, trees),
                     circle_faults(name, trees), node_faults(tree, parents), name_faults(tree), top_list_faults(tree),
                     attribute_faults(tree, parents, methods, values)):
            found += [(rule, name, line) for rule, line in part]
    return found
