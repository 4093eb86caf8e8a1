"""The form of the package's code: the rules of the language that a look at its trees can tell."""

import ast
import builtins
import pathlib
import re
import unittest

PACKAGE = pathlib.Path(__file__).resolve().parent.parent / "wrecktold"
BUILTINS = set(
    "len range enumerate zip min max sum abs sorted reversed int str bool bytes list tuple dict set frozenset isinstance ord repr any "
    "all divmod pow Exception ValueError TypeError KeyError IndexError LookupError ZeroDivisionError ArithmeticError OverflowError "
    "RuntimeError NotImplementedError AttributeError".split()
)
LIBRARY = {
    "heapq": {"heappush", "heappop", "heapify", "heapreplace", "heappushpop"},
    "math": {"gcd", "lcm", "isqrt", "comb", "perm", "factorial"},
    "itertools": {"product", "combinations", "permutations", "chain", "accumulate", "pairwise", "islice", "zip_longest"},
    "collections": {"defaultdict"},
}
METHODS = set(
    "append clear copy count endswith extend find get index insert isalnum isalpha isdigit islower isspace isupper items join keys "
    "ljust lower lstrip partition pop remove replace reverse rfind rjust rpartition rsplit rstrip setdefault split splitlines "
    "startswith strip update upper values zfill bit_length add discard sort".split()
)
BARRED = set(
    "type typing typing_extensions enum Enum IntEnum StrEnum Flag IntFlag Generic Protocol ABC ABCMeta namedtuple NamedTuple TypedDict "
    "TYPE_CHECKING abstractmethod register mro elements open input law version_info with_traceback add_note attrgetter breakpoint "
    "builtins compile copyright credits delattr dir eval exec exit gc globals help id importlib license locals methodcaller os quit "
    "vars _wall _WallAttr _cold _tuplegetter _outside _record _written_out _member_names".split()
)
BARRED_BEGINNINGS = ("_wall", "_pe_", "_dcw_", "_enum_", "_cm_", "_twin_re_", "_lay_", "_law_", "_stub_", "_sre", "_WallAttr")
NODES = (
    ast.Global, ast.AsyncFunctionDef, ast.AsyncFor, ast.AsyncWith, ast.Await, ast.Yield, ast.YieldFrom, ast.Div, ast.MatMult, ast.AnnAssign,
    ast.TryStar, ast.Import,
)
AT_ONCE = {"zip", "enumerate", "reversed", "range"}
TAKERS = {"list", "tuple", "dict", "sorted", "sum", "any", "all", "enumerate", "zip", "min", "max"}


def trees():
    """(path, text, tree) of each file of the package."""
    for path in sorted(PACKAGE.glob("*.py")):
        text = path.read_text()
        yield path, text, ast.parse(text)


def parents_of(tree):
    return {child: node for node in ast.walk(tree) for child in ast.iter_child_nodes(node)}


def bound_names(tree):
    """The names of parameters, and of variables that are assigned within functions."""
    for node in ast.walk(tree):
        if isinstance(node, ast.arg):
            yield node.arg, node
        if isinstance(node, ast.Name) and isinstance(node.ctx, ast.Store):
            yield node.id, node
        if isinstance(node, ast.ExceptHandler) and node.name:
            yield node.name, node


class Language(unittest.TestCase):
    def where(self, path, node, why):
        self.fail(f"{path.name}:{getattr(node, 'lineno', '?')}: {why}")

    def test_files(self):
        for path in PACKAGE.iterdir():
            if path.name != "__pycache__":
                self.assertRegex(path.name, r"^(__init__|[a-z][a-z0-9_]*)\.py$")

    def test_sizes_and_signs(self):
        for path, text, tree in trees():
            lines = text.split("\n")
            self.assertLessEqual(len(lines), 399, path.name)
            for at, line in enumerate(lines, 1):
                self.assertLessEqual(len(line), 120, f"{path.name}:{at}")
                self.assertRegex(line, r"^[ -~]*$", f"{path.name}:{at}")
            for node in ast.walk(tree):
                if isinstance(node, ast.FunctionDef) and node.end_lineno - node.lineno >= 40:
                    self.where(path, node, "L10: a long function")

    def test_module_level(self):
        for path, text, tree in trees():
            names = []
            for node in tree.body:
                if isinstance(node, ast.Expr) and isinstance(node.value, ast.Constant):
                    continue
                if isinstance(node, ast.ImportFrom):
                    names.extend(alias.name for alias in node.names)
                elif isinstance(node, (ast.FunctionDef, ast.ClassDef)):
                    names.append(node.name)
                elif isinstance(node, ast.Assign) and len(node.targets) == 1 and isinstance(node.targets[0], ast.Name):
                    if not self.is_table(node.value, names):
                        ast.literal_eval(node.value)
                    names.append(node.targets[0].id)
                else:
                    self.where(path, node, "L3: not at module level")
            self.assertEqual(len(names), len(set(names)), f"{path.name}: L15: bound twice")

    def is_table(self, value, names):
        """Whether a value is a dict of functions that are defined ahead of it."""
        return isinstance(value, ast.Dict) and all(isinstance(part, ast.Name) and part.id in names for part in value.values)

    def test_imports(self):
        defined = {}
        asked = {}
        for path, text, tree in trees():
            defined[path.stem] = {node.name for node in tree.body if isinstance(node, (ast.FunctionDef, ast.ClassDef))}
            defined[path.stem] |= {node.targets[0].id for node in tree.body if isinstance(node, ast.Assign)}
            asked[path.stem] = [(path, node) for node in ast.walk(tree) if isinstance(node, ast.ImportFrom)]
        for name, imports in asked.items():
            for path, node in imports:
                told = {alias.name for alias in node.names}
                self.assertTrue(all(alias.asname is None for alias in node.names) and node.level == 0)
                if node.module in LIBRARY:
                    self.assertLessEqual(told, LIBRARY[node.module])
                else:
                    self.assertTrue(node.module.startswith("wrecktold."), f"{path.name}: L2")
                    self.assertLessEqual(told, defined[node.module.split(".")[1]], f"{path.name}: L16")
        around = {name: {node.module.split(".")[1] for _, node in rows if "." in node.module} for name, rows in asked.items()}
        while around:
            free = [name for name in around if not around[name] & set(around)]
            self.assertTrue(free, f"L16: a ring of imports: {sorted(around)}")
            for name in free:
                del around[name]

    def test_all_imports_are_used(self):
        for path, text, tree in trees():
            used = {node.id for node in ast.walk(tree) if isinstance(node, ast.Name)}
            for node in ast.walk(tree):
                if isinstance(node, ast.ImportFrom):
                    for alias in node.names:
                        self.assertIn(alias.name, used, path.name)

    def test_names(self):
        for path, text, tree in trees():
            own = {alias.name for node in tree.body if isinstance(node, ast.ImportFrom) for alias in node.names}
            own |= {node.name for node in tree.body if isinstance(node, ast.ClassDef)}
            for name, node in bound_names(tree):
                if name in own or (name != "_" and name in dir(builtins)) or name in BARRED:
                    self.where(path, node, f"L15, L17: {name}")
                if name.startswith(BARRED_BEGINNINGS):
                    self.where(path, node, f"L12: {name}")
                if name != "_" and not re.fullmatch(r"_?[a-zA-Z][a-zA-Z0-9_]*", name):
                    self.where(path, node, f"L12: {name}")
            for node in ast.walk(tree):
                if isinstance(node, (ast.FunctionDef, ast.ClassDef)):
                    inside = isinstance(node, ast.FunctionDef) and node not in tree.body
                    if node.name in BARRED or node.name.startswith(BARRED_BEGINNINGS) or (node.name in dir(builtins) and not inside):
                        self.where(path, node, f"L15, L17: {node.name}")
                    if node.decorator_list:
                        self.where(path, node, "L4: a decorator")
                if isinstance(node, ast.Attribute) and (node.attr in BARRED or node.attr.startswith(BARRED_BEGINNINGS)):
                    self.where(path, node, f"L17: {node.attr}")
                if isinstance(node, ast.Name) and isinstance(node.ctx, ast.Load):
                    if node.id == "_" or (node.id in dir(builtins) and node.id not in BUILTINS):
                        self.where(path, node, f"L8, L12: {node.id}")

    def test_statements_and_expressions(self):
        for path, text, tree in trees():
            parents = parents_of(tree)
            for node in ast.walk(tree):
                if isinstance(node, NODES):
                    self.where(path, node, "L6, L7: a barred statement or expression")
                if isinstance(node, ast.Constant):
                    if isinstance(node.value, (float, bytes)) or (isinstance(node.value, str) and chr(37) in node.value):
                        self.where(path, node, "L7, L27: a barred literal")
                if isinstance(node, ast.BinOp) and isinstance(node.op, ast.Pow):
                    if not isinstance(node.right, ast.Constant) or not 0 <= node.right.value <= 64:
                        self.where(path, node, "L27: an exponent")
                if isinstance(node, ast.Compare) and any(isinstance(op, (ast.Is, ast.IsNot)) for op in node.ops):
                    if not (isinstance(node.comparators[0], ast.Constant) and node.comparators[0].value in (None, True, False)):
                        self.where(path, node, "L20: is")
                if isinstance(node, ast.GeneratorExp):
                    call = parents[node]
                    if not isinstance(call, ast.Call) or getattr(call.func, "id", "join") not in TAKERS | {"join"}:
                        self.where(path, node, "L7: a generator expression")
                if isinstance(node, ast.ExceptHandler) and not isinstance(node.type, (ast.Name, ast.Tuple)):
                    self.where(path, node, "L19: a handler")

    def test_what_is_iterated_at_once(self):
        for path, text, tree in trees():
            parents = parents_of(tree)
            for node in ast.walk(tree):
                if isinstance(node, ast.Call) and isinstance(node.func, ast.Name) and node.func.id in AT_ONCE:
                    around = parents[node]
                    looped = isinstance(around, (ast.For, ast.comprehension)) and around.iter is node
                    taken = isinstance(around, ast.Call) and getattr(around.func, "id", "") in TAKERS and around.args[0] is node
                    if not looped and not taken:
                        self.where(path, node, f"L23: {node.func.id}")
                if isinstance(node, (ast.Set, ast.SetComp)) or (isinstance(node, ast.Call) and getattr(node.func, "id", "") == "set"):
                    around = parents[node]
                    taken = isinstance(around, ast.Call) and getattr(around.func, "id", "") in ("sorted", "len")
                    if not taken and not isinstance(around, (ast.Compare, ast.Assign)):
                        self.where(path, node, "L24: a set")

    def test_methods_and_attributes(self):
        methods = set()
        stored = set()
        for path, text, tree in trees():
            for node in ast.walk(tree):
                if isinstance(node, ast.ClassDef):
                    here = {part.name for part in node.body if isinstance(part, ast.FunctionDef)}
                    kept = {
                        part.attr for part in ast.walk(node)
                        if isinstance(part, ast.Attribute) and isinstance(part.ctx, ast.Store)
                    }
                    self.assertFalse(here & kept, f"{path.name}: L18")
                    self.assertFalse(kept & (METHODS - {"count", "index", "find", "get", "join", "copy", "add"}), f"{path.name}: L26")
                    methods |= here
                    stored |= kept
        for path, text, tree in trees():
            called = {node.func for node in ast.walk(tree) if isinstance(node, ast.Call)}
            for node in ast.walk(tree):
                if isinstance(node, ast.Attribute) and isinstance(node.ctx, ast.Load):
                    if node in called and node.attr not in methods | METHODS | {"__init__"}:
                        self.where(path, node, f"L25: {node.attr}")
                    if node not in called and node.attr not in stored:
                        self.where(path, node, f"L18: {node.attr}")

    def test_words_that_stand_nowhere(self):
        for path, text, tree in trees():
            for node in ast.walk(tree):
                if isinstance(node, ast.JoinedStr):
                    continue
                if isinstance(node, ast.Constant) and isinstance(node.value, str) and node.value in BARRED - {"type", "open"}:
                    self.where(path, node, "L17: a barred word")


if __name__ == "__main__":
    unittest.main()
