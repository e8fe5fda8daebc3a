"""What can be seen of the rules of the language in the files of the package.

Stricter than the rules where the package needs less than they allow.
"""

import ast
import builtins
import re
import unittest
from pathlib import Path

PACKAGE = Path(__file__).resolve().parent.parent / "restworld"
FILES = sorted(path for path in PACKAGE.rglob("*") if "__pycache__" not in path.parts)
LIBRARY = {
    "math": {"gcd", "lcm", "isqrt", "comb", "perm", "factorial"},
    "heapq": {"heappush", "heappop", "heapify", "heapreplace", "heappushpop"},
    "itertools": {"product", "combinations", "permutations"},
}
BUILTINS = set(
    "len range enumerate zip min max sum abs sorted reversed int str bool bytes list tuple dict set isinstance ord repr "
    "any all divmod Exception ValueError TypeError KeyError IndexError LookupError ZeroDivisionError ArithmeticError "
    "OverflowError RuntimeError NotImplementedError AttributeError NotImplemented iter next map super property".split()
)
METHODS = set(
    "append clear copy count endswith extend find get index insert isalnum isalpha isdigit islower isspace isupper items "
    "join keys ljust lower lstrip partition pop remove replace reverse rfind rjust rpartition rsplit rstrip setdefault "
    "split splitlines startswith strip update upper values zfill bit_length add discard".split()
)
BARRED = set(
    "register mro elements open input law version_info with_traceback add_note attrgetter breakpoint builtins compile "
    "copyright credits delattr dir eval exec exit gc getattr globals hasattr help id importlib license locals "
    "methodcaller os quit setattr type vars sys format format_map".split()
)
WORDS = re.compile(
    r"\b(type|typing|typing_extensions|enum|Enum|IntEnum|StrEnum|Flag|IntFlag|Generic|Protocol|ABC|ABCMeta|namedtuple|"
    r"NamedTuple|TypedDict|TYPE_CHECKING|abstractmethod|_wall|_WallAttr)\b|dataclass|overload|contextmanager"
)
NODES = (
    ast.AsyncFor, ast.AsyncFunctionDef, ast.AsyncWith, ast.Await, ast.Div, ast.Global, ast.GeneratorExp, ast.ImportFrom,
    ast.Import, ast.JoinedStr, ast.Set, ast.SetComp, ast.Try, ast.Yield, ast.YieldFrom, ast.MatMult, ast.AnnAssign,
)


def tree_of(path):
    return ast.parse(path.read_text(encoding="utf-8"))


def parents_of(tree):
    return {child: node for node in ast.walk(tree) for child in ast.iter_child_nodes(node)}


def functions_of(tree):
    return [node for node in ast.walk(tree) if isinstance(node, (ast.FunctionDef, ast.Lambda))]


def parameters_of(function):
    return [one.arg for one in function.args.args + function.args.kwonlyargs + function.args.posonlyargs]


def bound_at_module_level(tree):
    for node in tree.body:
        if isinstance(node, ast.ImportFrom):
            yield from (alias.asname or alias.name for alias in node.names)
        elif isinstance(node, (ast.FunctionDef, ast.ClassDef)):
            yield node.name
        elif isinstance(node, ast.Assign):
            yield from (target.id for target in node.targets)


def docstrings_of(tree):
    owners = [node for node in ast.walk(tree) if isinstance(node, (ast.Module, ast.ClassDef, ast.FunctionDef))]
    return [node.body[0].value for node in owners if ast.get_docstring(node) is not None]


def is_property(node):
    """Whether it is a property that gives an attribute and does nothing else."""
    if not isinstance(node, ast.FunctionDef) or [getattr(one, "id", "") for one in node.decorator_list] != ["property"]:
        return False
    rows = [row for row in node.body if not isinstance(row, ast.Expr)]
    return parameters_of(node) == ["self"] and len(rows) == 1 and isinstance(rows[0], ast.Return)


class Language(unittest.TestCase):
    def each(self):
        for path in FILES:
            if path.is_file():
                yield path, tree_of(path)

    def fail_at(self, path, node, why):
        self.fail(f"{path.name}, line {getattr(node, 'lineno', 0)}: {why}")

    def test_files_have_plain_names_characters_and_sizes(self):
        self.assertTrue((PACKAGE / "__init__.py").is_file())
        for path in FILES:
            self.assertTrue(path.is_dir() or re.fullmatch(r"[a-z][a-z0-9_]*\.py|__(init|main)__\.py", path.name), path)
        for path, tree in self.each():
            lines = path.read_text(encoding="utf-8").split("\n")
            self.assertLessEqual(len(lines), 400, path.name)
            for line in lines:
                self.assertTrue(len(line) <= 120 and re.fullmatch("[ -~]*", line), f"{path.name}: {line}")
            for node in functions_of(tree):
                if node.end_lineno - node.lineno >= 40:
                    self.fail_at(path, node, "more than 40 lines")

    def test_module_level(self):
        for path, tree in self.each():
            names = list(bound_at_module_level(tree))
            self.assertEqual(len(names), len(set(names)), path.name)
            for at, node in enumerate(tree.body):
                is_docstring = at == 0 and isinstance(node, ast.Expr) and isinstance(node.value, ast.Constant)
                if not is_docstring and not isinstance(node, (ast.ImportFrom, ast.FunctionDef, ast.ClassDef, ast.Assign)):
                    self.fail_at(path, node, "not at module level")
                if isinstance(node, ast.ImportFrom) and any(
                    not isinstance(before, (ast.ImportFrom, ast.Expr)) for before in tree.body[:at]
                ):
                    self.fail_at(path, node, "an import behind other things")

    def test_imports(self):
        trees = {f"restworld.{path.stem}": tree for path, tree in self.each()}
        ahead = {}
        for name, tree in trees.items():
            imports = [node for node in ast.walk(tree) if isinstance(node, (ast.ImportFrom, ast.Import))]
            self.assertTrue(all(isinstance(node, ast.ImportFrom) and node in tree.body for node in imports), name)
            ahead[name] = [node.module for node in imports if node.module not in LIBRARY]
            for node in imports:
                told = {alias.name for alias in node.names}
                if node.module in LIBRARY:
                    self.assertLessEqual(told, LIBRARY[node.module], name)
                else:
                    own = [one for one in trees[node.module].body if not isinstance(one, ast.ImportFrom)]
                    self.assertLessEqual(told, set(bound_at_module_level(ast.Module(own, []))), name)
                loads = {one.id for one in ast.walk(tree) if isinstance(one, ast.Name)}
                self.assertLessEqual({alias.asname or alias.name for alias in node.names}, loads, f"unused in {name}")
        while ahead:
            ready = [name for name, needs in ahead.items() if not any(need in ahead for need in needs)]
            self.assertTrue(ready, f"imports in a round: {sorted(ahead)}")
            for name in ready:
                del ahead[name]

    def test_library_names_are_only_called(self):
        for path, tree in self.each():
            taken = [node for node in tree.body if isinstance(node, ast.ImportFrom) and node.module in LIBRARY]
            names = {alias.name for node in taken for alias in node.names}
            parents = parents_of(tree)
            for node in ast.walk(tree):
                if isinstance(node, ast.Name) and node.id in names:
                    call = parents[node]
                    if not (isinstance(call, ast.Call) and call.func is node and not call.keywords):
                        self.fail_at(path, node, f"{node.id} is not plainly called")

    def test_names(self):
        for path, tree in self.each():
            imported = {name for node in tree.body if isinstance(node, ast.ImportFrom) for name in
                        bound_at_module_level(ast.Module([node], []))}
            classes = {node.name for node in ast.walk(tree) if isinstance(node, ast.ClassDef)}
            outside = set(bound_at_module_level(tree))
            for function in functions_of(tree):
                stored = {node.id for node in ast.walk(function) if isinstance(node, ast.Name)
                          and isinstance(node.ctx, ast.Store)} | set(parameters_of(function))
                wrong = stored & (imported | classes | set(dir(builtins)) | BARRED)
                if wrong:
                    self.fail_at(path, function, f"takes the names {wrong}")
                outside |= stored
            for node in ast.walk(tree):
                if isinstance(node, ast.Name) and node.id not in outside | BUILTINS:
                    self.fail_at(path, node, f"{node.id} is not known")
                if isinstance(node, (ast.FunctionDef, ast.ClassDef)):
                    if node.name in BARRED | (set(dir(builtins)) if node in tree.body else set()):
                        self.fail_at(path, node, f"{node.name} is not free")

    def test_methods(self):
        own = {node.name for _, tree in self.each() for one in ast.walk(tree) if isinstance(one, ast.ClassDef)
               for node in one.body if isinstance(node, ast.FunctionDef)}
        for path, tree in self.each():
            for node in ast.walk(tree):
                if isinstance(node, ast.Call) and isinstance(node.func, ast.Attribute):
                    if node.func.attr not in own | METHODS:
                        self.fail_at(path, node, f"the method {node.func.attr}")
                if isinstance(node, ast.Attribute) and node.attr in BARRED:
                    self.fail_at(path, node, f"the attribute {node.attr}")

    def test_statements_and_values(self):
        for path, tree in self.each():
            docstrings = docstrings_of(tree)
            # An f-string stands only in what shows an object.
            shown = [one for node in functions_of(tree) if getattr(node, "name", "") == "__repr__" for one in ast.walk(node)]
            for node in ast.walk(tree):
                if isinstance(node, NODES) and node not in tree.body and node not in shown:
                    self.fail_at(path, node, f"a {node.__class__.__name__}")
                if isinstance(node, ast.Constant) and isinstance(node.value, (float, complex, bytes)):
                    self.fail_at(path, node, "a value of another class")
                if isinstance(node, ast.Constant) and isinstance(node.value, str) and node not in docstrings:
                    if "%" in node.value or WORDS.search(node.value):
                        self.fail_at(path, node, "such a string")
                if isinstance(node, ast.BinOp) and isinstance(node.op, ast.Pow):
                    self.assertTrue(isinstance(node.right, ast.Constant) and 0 <= node.right.value <= 64, path.name)
                if isinstance(node, ast.Compare):
                    for operator, right in zip(node.ops, node.comparators):
                        if isinstance(operator, (ast.Is, ast.IsNot)):
                            self.assertIn(getattr(right, "value", 0), (None, True, False), path.name)
                if isinstance(node, (ast.FunctionDef, ast.ClassDef)):
                    if not is_property(node):
                        self.assertEqual(node.decorator_list, [], path.name)
                    if isinstance(node, ast.FunctionDef):
                        self.assertEqual((node.args.defaults, node.returns), ([], None), path.name)
            self.assertIsNone(WORDS.search(" ".join(
                node.id for node in ast.walk(tree) if isinstance(node, ast.Name)
            )), path.name)

    def test_views_and_zips_are_iterated_on_the_spot(self):
        at_once = {"list", "tuple", "dict", "sorted", "sum", "any", "all", "enumerate", "zip", "min", "max"}
        for path, tree in self.each():
            parents = parents_of(tree)
            for node in ast.walk(tree):
                if not isinstance(node, ast.Call):
                    continue
                name = getattr(node.func, "id", None) or getattr(node.func, "attr", None)
                if name not in ("zip", "enumerate", "reversed", "range", "items", "keys", "values", "product",
                                "combinations", "permutations"):
                    continue
                parent = parents[node]
                is_looped = isinstance(parent, (ast.For, ast.comprehension)) and parent.iter is node
                is_taken = isinstance(parent, ast.Call) and getattr(parent.func, "id", None) in at_once
                if not is_looped and not is_taken:
                    self.fail_at(path, node, f"{name} is not iterated on the spot")

    def test_comprehensions_stand_in_functions(self):
        for path, tree in self.each():
            inside = {node for function in functions_of(tree) for node in ast.walk(function)}
            for node in ast.walk(tree):
                if isinstance(node, (ast.ListComp, ast.DictComp, ast.Lambda)) and not isinstance(node, ast.Lambda):
                    self.assertIn(node, inside, path.name)

    def test_no_name_is_a_method_and_an_attribute(self):
        for path, tree in self.each():
            for one in ast.walk(tree):
                if isinstance(one, ast.ClassDef):
                    methods = [node.name for node in one.body if isinstance(node, ast.FunctionDef)]
                    stored = {node.attr for node in ast.walk(one) if isinstance(node, ast.Attribute)
                              and isinstance(node.ctx, ast.Store)}
                    self.assertEqual(len(methods), len(set(methods)), path.name)
                    self.assertFalse(stored & set(methods), path.name)

    def test_special_methods_change_nothing(self):
        allowed = {"__init__", "__eq__", "__repr__", "__contains__", "__enter__", "__exit__"}
        changing = {"__init__", "__enter__", "__exit__"}
        for path, tree in self.each():
            for node in functions_of(tree):
                name = getattr(node, "name", "")
                if name.startswith("__"):
                    self.assertIn(name, allowed, path.name)
                    stored = [one for one in ast.walk(node) if isinstance(getattr(one, "ctx", None), (ast.Store, ast.Del))]
                    if stored and name not in changing:
                        self.fail_at(path, node, "a special method that stores something")

    def test_ends_of_trials_only_assign_attributes(self):
        rows = (ast.If, ast.Assign, ast.Attribute, ast.Name, ast.Compare, ast.IsNot, ast.Constant, ast.Load, ast.Store)
        for path, tree in self.each():
            for node in functions_of(tree):
                if getattr(node, "name", "") == "__exit__":
                    self.assertEqual(parameters_of(node), ["self", "kind", "value", "trace"], path.name)
                    for one in [inner for row in node.body for inner in ast.walk(row)]:
                        self.assertIsInstance(one, rows, path.name)
                        if isinstance(one, ast.Compare):
                            self.assertEqual(ast.unparse(one), "kind is not None", path.name)
                        if isinstance(one, ast.Name):
                            self.assertIn(one.id, ("self", "kind"), path.name)
                            self.assertIsInstance(one.ctx, ast.Load, path.name)

    def test_names_of_properties_are_stored_nowhere(self):
        properties, stored = set(), {}
        for path, tree in self.each():
            properties |= {node.name for node in functions_of(tree) if is_property(node)}
            for node in ast.walk(tree):
                if isinstance(node, ast.Attribute) and isinstance(node.ctx, ast.Store):
                    stored[node.attr] = path.name
        self.assertFalse(properties & set(stored), stored)
