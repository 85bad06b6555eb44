"""The rules of the subset of Python that the package keeps to, as far as a test can see them.

Each check tells what breaks a rule as `file:line rule`. Where the subset allows more than the package needs,
a check may be narrower than the rule: then the check is what to change.
"""

import ast
import builtins
import os
import re
import unittest
import warnings

import fromplaces

FOLDER = os.path.dirname(fromplaces.__file__)
# An example that is run puts `_` among them.
BUILTIN_NAMES = set(dir(builtins)) - {"_"}
BUILTINS = set(
    "len range enumerate zip min max sum abs sorted reversed int str bool bytes list tuple dict set frozenset isinstance"
    " ord repr any all divmod pow Exception ValueError TypeError KeyError IndexError LookupError ZeroDivisionError"
    " ArithmeticError OverflowError RuntimeError NotImplementedError AttributeError NotImplemented"
    " property classmethod staticmethod super iter next map".split()
)
LIBRARY = {
    "math": {"gcd", "lcm", "isqrt", "comb", "perm", "factorial"},
    "heapq": {"heappush", "heappop", "heapify", "heapreplace", "heappushpop"},
    "itertools": {"product", "combinations", "permutations", "chain", "accumulate", "pairwise", "islice", "zip_longest"},
    "collections": {"defaultdict"},
}
METHODS = set(
    "append clear copy count endswith extend find get index insert isalnum isalpha isdigit islower isspace isupper items"
    " join keys ljust lower lstrip partition pop remove replace reverse rfind rjust rpartition rsplit rstrip setdefault"
    " split splitlines startswith strip update upper values zfill bit_length title capitalize swapcase casefold center"
    " expandtabs removeprefix removesuffix rindex isascii isdecimal isnumeric istitle isidentifier isprintable add discard"
    .split()
)
DUNDERS = set(
    "init eq repr str len enter exit call iter lt le gt ge ne add sub mul floordiv mod pow and or xor lshift rshift"
    " radd rsub rmul rfloordiv rmod rand ror rxor neg pos invert abs bool contains getitem setitem".split()
)
BARRED_NAMES = set(
    "register mro elements open input law version_info with_traceback add_note attrgetter breakpoint builtins compile"
    " copyright credits delattr dir eval exec exit gc globals help id importlib license locals methodcaller os quit"
    " type vars sys print chr format".split()
)
BARRED_WORDS = set(
    "type typing typing_extensions enum Enum IntEnum StrEnum Flag IntFlag Generic Protocol ABC ABCMeta namedtuple"
    " NamedTuple TypedDict TYPE_CHECKING abstractmethod".split()
)
STATEMENTS = (
    ast.Assign, ast.AugAssign, ast.If, ast.While, ast.For, ast.Return, ast.Break, ast.Continue, ast.Pass, ast.Raise,
    ast.Assert, ast.Delete, ast.Nonlocal, ast.Match, ast.With, ast.Try, ast.FunctionDef, ast.ClassDef, ast.Expr,
    ast.ImportFrom,
)
AT_ONCE = {"list", "tuple", "dict", "sorted", "sum", "any", "all", "enumerate", "zip", "min", "max"}
VIEWS = {"range", "zip", "enumerate", "reversed"}
LOOPS = (ast.For, ast.comprehension)
COMPREHENSIONS = (ast.ListComp, ast.SetComp, ast.DictComp)


class File:
    """A file of the package, read once."""

    def __init__(self, name):
        self.name = name
        with open(os.path.join(FOLDER, name), "rb") as held:
            self.text = held.read().decode("utf-8")
        with warnings.catch_warnings():
            warnings.simplefilter("error")
            self.tree = ast.parse(self.text)
            compile(self.text, name, "exec")
        self.nodes = list(ast.walk(self.tree))
        self.parents = {child: node for node in self.nodes for child in ast.iter_child_nodes(node)}
        self.functions = [node for node in self.nodes if isinstance(node, ast.FunctionDef)]
        self.classes = [node for node in self.nodes if isinstance(node, ast.ClassDef)]
        self.imports = [node for node in self.nodes if isinstance(node, ast.ImportFrom)]

    def imported(self):
        return {alias.name for node in self.imports for alias in node.names}

    def defined(self):
        """What is bound at module level, imports not counted."""
        names = [node.name for node in self.tree.body if isinstance(node, (ast.FunctionDef, ast.ClassDef))]
        return names + [node.targets[0].id for node in self.tree.body if isinstance(node, ast.Assign)]

    def names_of(self, function):
        """The parameters and local variables of a function."""
        names = {one.arg for one in ast.walk(function) if isinstance(one, ast.arg)}
        return names | {one.id for one in ast.walk(function) if isinstance(one, ast.Name) and isinstance(one.ctx, ast.Store)}


FILES = [File(name) for name in sorted(os.listdir(FOLDER)) if name.endswith(".py")]
OWN_METHODS = {
    one.name for file in FILES for kind in file.classes for one in kind.body if isinstance(one, ast.FunctionDef)
}


class Language(unittest.TestCase):

    def check(self, rule, wrong):
        """Nothing breaks the rule; wrong tells for a file the nodes or the line numbers that do."""
        found = []
        for file in FILES:
            for one in wrong(file):
                found.append(f"{file.name}:{one if isinstance(one, int) else one.lineno} {rule}")
        self.assertEqual(found, [])

    def test_files(self):
        names = [name for name in os.listdir(FOLDER) if name != "__pycache__"]
        self.assertEqual([name for name in names if not re.fullmatch(r"[a-z_][a-z0-9_]*\.py", name)], [])
        self.assertLessEqual(len(names), 100)
        stems = {name[:-3] for name in names}
        self.assertEqual(stems & (BUILTIN_NAMES | BARRED_WORDS | {"site", "test", "tests", "conftest"}), set())

    def test_imports(self):
        table = {"fromplaces." + file.name[:-3]: file.defined() for file in FILES}

        def wrong(file):
            body = [node for node in file.tree.body if not isinstance(node, ast.Expr)]
            found = [node for k, node in enumerate(body) if isinstance(node, ast.ImportFrom) and k >= len(file.imports)]
            for node in file.imports:
                names = table.get(node.module) or LIBRARY.get(node.module, set())
                if node.level or any(alias.asname or alias.name not in names for alias in node.names):
                    found.append(node)
            return found + [node for node in file.nodes if isinstance(node, ast.Import)]

        self.check("L2, L16", wrong)

    def test_no_import_in_a_circle(self):
        ahead = {
            "fromplaces." + file.name[:-3]: {node.module for node in file.imports if node.module.startswith("fromplaces")}
            for file in FILES
        }
        while ahead:
            free = [name for name, wanted in ahead.items() if not wanted & set(ahead)]
            self.assertTrue(free, f"L16 {sorted(ahead)}")
            ahead = {name: wanted for name, wanted in ahead.items() if name not in free}

    def test_all_imports_are_used(self):
        def wrong(file):
            used = {node.id for node in file.nodes if isinstance(node, ast.Name)}
            return [node for node in file.imports if any(alias.name not in used for alias in node.names)]
        self.check("not used", wrong)

    def test_module_level(self):
        plain = (ast.Constant, ast.Tuple, ast.List, ast.Dict, ast.Load, ast.Name, ast.UnaryOp, ast.USub, ast.BinOp, ast.operator)

        def wrong(file):
            for node in file.tree.body:
                if isinstance(node, (ast.FunctionDef, ast.ClassDef, ast.ImportFrom)):
                    continue
                if isinstance(node, ast.Expr) and isinstance(node.value, ast.Constant):
                    continue
                fine = isinstance(node, ast.Assign) and len(node.targets) == 1 and isinstance(node.targets[0], ast.Name)
                if not fine or not all(isinstance(one, plain) for one in ast.walk(node.value)):
                    yield node
            names = file.defined() + list(file.imported())
            if len(names) != len(set(names)):
                yield 1

        self.check("L3, L15", wrong)

    def test_statements(self):
        def wrong(file):
            for node in file.nodes:
                if isinstance(node, ast.stmt) and not isinstance(node, STATEMENTS):
                    yield node
                if isinstance(node, (ast.GeneratorExp, ast.Yield, ast.YieldFrom, ast.Await, ast.Lambda)):
                    yield node
                if isinstance(node, ast.Expr) and not isinstance(node.value, (ast.Call, ast.Constant)):
                    yield node
        self.check("L6, L7", wrong)

    def test_values(self):
        def wrong(file):
            for node in file.nodes:
                if isinstance(node, (ast.Div, ast.MatMult)):
                    yield 1
                if isinstance(node, ast.Constant) and isinstance(node.value, (float, complex)):
                    yield node
                if isinstance(node, ast.Constant) and isinstance(node.value, str) and "%" in node.value:
                    yield node
                if isinstance(node, ast.BinOp) and isinstance(node.op, ast.Pow):
                    if not isinstance(node.right, ast.Constant) or not 0 <= node.right.value <= 64:
                        yield node
                if isinstance(node, COMPREHENSIONS) and len(node.generators) > 6:
                    yield node
        self.check("L7, L27", wrong)

    def test_sizes_and_characters(self):
        def wrong(file):
            lines = file.text.split("\n")
            found = [k for k, line in enumerate(lines, 1) if len(line) > 120 or not re.fullmatch(r"[ -~]*", line)]
            found += [len(lines)] if len(lines) > 400 else []
            return found + [node for node in file.functions if node.end_lineno - node.lineno + 1 > 40]
        self.check("L10, L14", wrong)

    def test_builtins(self):
        def wrong(file):
            for node in file.nodes:
                if isinstance(node, ast.Name) and isinstance(node.ctx, ast.Load) and node.id in BUILTIN_NAMES:
                    if node.id not in BUILTINS:
                        yield node
        self.check("L8", wrong)

    def test_names(self):
        def wrong(file):
            kinds = {node.name for node in file.classes}
            for function in file.functions:
                for name in file.names_of(function):
                    if name in BUILTIN_NAMES or name in file.imported() | kinds | BARRED_NAMES | set(file.defined()):
                        yield function
                    if name.startswith("__") or not re.fullmatch(r"_|_?[A-Za-z][A-Za-z0-9_]*", name):
                        yield function
            for node in file.functions + file.classes:
                dunder = re.fullmatch(r"__(\w+)__", node.name)
                if dunder and dunder[1] not in DUNDERS:
                    yield node
                if not dunder and (node.name.startswith("__") or node.name in BARRED_NAMES or node.name in BUILTIN_NAMES):
                    yield node
        self.check("L5, L12, L15, L17", wrong)

    def test_blank_name_is_not_read(self):
        self.check("L12", lambda file: [
            node for node in file.nodes
            if isinstance(node, ast.Name) and node.id == "_" and isinstance(node.ctx, ast.Load)
        ])

    def test_words(self):
        def wrong(file):
            for node in file.nodes:
                words = []
                if isinstance(node, ast.Name):
                    words = [node.id]
                if isinstance(node, ast.Attribute):
                    words = [node.attr]
                if isinstance(node, ast.Constant) and isinstance(node.value, str):
                    if not isinstance(file.parents[node], ast.Expr):
                        words = re.findall(r"\w+", node.value)
                if any(word in BARRED_WORDS or word in ("register", "elements", "mro") for word in words):
                    yield node
            if re.search(r"_wall|_WallAttr|\(type\)|Meta|metaclass=", file.text):
                yield 1
        self.check("L12, L17", wrong)

    def test_decorators_and_parameters(self):
        def wrong(file):
            for node in file.functions:
                names = [one.id if isinstance(one, ast.Name) else one.attr for one in node.decorator_list]
                if any(name not in ("property", "classmethod", "staticmethod", "setter") for name in names):
                    yield node
                if not all(isinstance(one, ast.Constant) for one in node.args.defaults):
                    yield node
                if node.returns or any(one.annotation for one in node.args.args):
                    yield node
            for node in file.classes:
                if node.decorator_list or node.keywords:
                    yield node
                if not all(isinstance(one, (ast.FunctionDef, ast.Expr)) for one in node.body):
                    yield node
        self.check("L4, L5, L21", wrong)

    def test_names_in_inner_comprehensions(self):
        def targets(node):
            return {one.id for one in ast.walk(node) if isinstance(one, ast.Name) and isinstance(one.ctx, ast.Store)}

        def assigned(function):
            inner = [one for one in ast.walk(function) if isinstance(one, COMPREHENSIONS)]
            hidden = {id(one) for node in inner for part in node.generators for one in ast.walk(part.target)}
            names = {one.arg for one in ast.walk(function.args) if isinstance(one, ast.arg)}
            return names | {
                one.id for one in ast.walk(function)
                if isinstance(one, ast.Name) and isinstance(one.ctx, ast.Store) and id(one) not in hidden
            }

        def wrong(file):
            for function in file.functions:
                outer = assigned(function)
                for node in [one for one in ast.walk(function) if isinstance(one, COMPREHENSIONS)]:
                    ahead, above = set(outer), file.parents[node]
                    is_inner = False
                    while above is not function:
                        if isinstance(above, COMPREHENSIONS):
                            is_inner = True
                            ahead |= {name for part in above.generators for name in targets(part.target)}
                        above = file.parents[above]
                    own = {name for part in node.generators for name in targets(part.target)}
                    if is_inner and own & ahead:
                        yield node
        self.check("L7", wrong)

    def test_is(self):
        def wrong(file):
            for node in file.nodes:
                if isinstance(node, ast.Compare):
                    for sign, right in zip(node.ops, node.comparators):
                        if isinstance(sign, (ast.Is, ast.IsNot)):
                            if not isinstance(right, ast.Constant) or right.value not in (None, True, False):
                                yield node
        self.check("L20", wrong)

    def test_calls(self):
        allowed = {("sorted", "key"), ("sorted", "reverse"), ("min", "key"), ("max", "key"), ("min", "default"),
                   ("max", "default"), ("sum", "start"), ("enumerate", "start"), ("zip", "strict")}

        def wrong(file):
            for node in file.nodes:
                if not isinstance(node, ast.Call):
                    continue
                if isinstance(node.func, ast.Name) and node.func.id in BUILTIN_NAMES:
                    if any((node.func.id, one.arg) not in allowed for one in node.keywords):
                        yield node
                if isinstance(node.func, ast.Attribute) and node.func.attr not in METHODS | OWN_METHODS:
                    yield node
                if not isinstance(node.func, (ast.Name, ast.Attribute)):
                    yield node
                if isinstance(node.func, ast.Name) and node.func.id in LIBRARY["math"]:
                    if any(isinstance(one, ast.Starred) for one in node.args) or node.keywords:
                        yield node

        self.check("L22, L25", wrong)

    def test_iterated_at_once(self):
        def wrong(file):
            for node in file.nodes:
                if not isinstance(node, ast.Call):
                    continue
                name = node.func.id if isinstance(node.func, ast.Name) else node.func.attr
                if name not in VIEWS | {"items", "keys", "values"}:
                    continue
                above = file.parents[node]
                in_loop = isinstance(above, LOOPS) and above.iter is node
                in_call = isinstance(above, ast.Call) and isinstance(above.func, ast.Name) and above.func.id in AT_ONCE
                if not in_loop and not in_call:
                    yield node
                if name == "reversed" and not isinstance(node.args[0], ast.Call):
                    yield node
        self.check("L23", wrong)

    def test_sets(self):
        def wrong(file):
            for node in file.nodes:
                is_call = isinstance(node, ast.Call) and isinstance(node.func, ast.Name) and node.func.id == "set"
                if is_call or isinstance(node, (ast.Set, ast.SetComp)):
                    above = file.parents[node]
                    if not isinstance(above, ast.Call) or above.func.id not in ("sorted", "len"):
                        yield node
        self.check("L24", wrong)

    def test_what_is_iterated_stays(self):
        changing = {"append", "pop", "extend", "insert", "remove", "clear", "reverse", "update", "setdefault"}

        def names_in(node):
            return {one.id for one in ast.walk(node) if isinstance(one, ast.Name)}

        def wrong(file):
            for loop in [node for node in file.nodes if isinstance(node, ast.For)]:
                if isinstance(loop.iter, ast.Call) and getattr(loop.iter.func, "id", "") == "range":
                    continue
                over = names_in(loop.iter)
                for node in [one for part in loop.body for one in ast.walk(part)]:
                    if isinstance(node, ast.Call) and isinstance(node.func, ast.Attribute) and node.func.attr in changing:
                        if names_in(node.func.value) & over:
                            yield node
                    if isinstance(node, ast.Subscript) and not isinstance(node.ctx, ast.Load):
                        if names_in(node.value) & over:
                            yield node

        self.check("L23", wrong)

    def test_errors(self):
        def wrong(file):
            for node in file.nodes:
                if isinstance(node, ast.Raise) and node.exc is not None and not isinstance(node.exc, ast.Call):
                    yield node
                if isinstance(node, ast.ExceptHandler):
                    named = node.type.elts if isinstance(node.type, ast.Tuple) else [node.type]
                    barred = ("Exception", "TypeError", "ArithmeticError", "OverflowError", "RuntimeError")
                    if any(not isinstance(one, ast.Name) or one.id in barred for one in named):
                        yield node
        self.check("L19", wrong)

    def test_operators_change_nothing(self):
        def wrong(file):
            for kind in file.classes:
                for method in [one for one in kind.body if isinstance(one, ast.FunctionDef)]:
                    if method.name.startswith("__") and method.name not in ("__init__", "__enter__", "__exit__"):
                        for node in ast.walk(method):
                            if isinstance(node, (ast.Attribute, ast.Subscript)) and not isinstance(node.ctx, ast.Load):
                                yield node
                            if isinstance(node, ast.AugAssign):
                                yield node
        self.check("L5, L28", wrong)


if __name__ == "__main__":
    unittest.main()
