"""Looks at the package's files for what ../shared/LANGUAGE.md rules out, as far as one look at a file can tell."""

import ast
import builtins
import os
import unittest
import warnings

ROOT = os.path.dirname(os.path.dirname(os.path.abspath(__file__)))
PACKAGE = os.path.join(ROOT, "oneheap")

BUILTINS = {
    "len", "range", "enumerate", "zip", "min", "max", "sum", "abs", "sorted", "reversed", "int", "str", "bool", "list",
    "tuple", "dict", "set", "isinstance", "ord", "repr", "any", "all", "divmod", "Exception", "ValueError", "TypeError",
    "KeyError", "IndexError", "LookupError", "ZeroDivisionError", "NotImplementedError", "iter", "next", "map",
}
VALUE_METHODS = set(
    "append clear copy count endswith extend find get index insert isalnum isalpha isdigit islower isspace isupper "
    "items join keys ljust lower lstrip partition pop remove replace reverse rfind rjust rpartition rsplit rstrip setdefault "
    "split splitlines startswith strip update upper values zfill bit_length add discard".split())
BARRED_ATTRIBUTES = set(
    "items keys values pop update append clear extend insert remove reverse setdefault sort args encode decode hex "
    "fromhex format format_map mro".split())
BARRED_NAMES = set(
    "register mro elements open input law version_info with_traceback add_note type vars id super eval exec exit "
    "compile dir globals locals help sys os gc".split())
BARRED_WORDS = set(
    "typing typing_extensions enum Enum IntEnum StrEnum Flag IntFlag Generic Protocol ABC ABCMeta namedtuple "
    "NamedTuple TypedDict TYPE_CHECKING abstractmethod dataclass overload contextmanager".split())
STATEMENTS = (
    ast.Assign, ast.AugAssign, ast.If, ast.While, ast.For, ast.Return, ast.Break, ast.Continue, ast.Pass, ast.Raise,
    ast.Assert, ast.Delete, ast.Nonlocal, ast.Try, ast.Expr, ast.FunctionDef, ast.ClassDef, ast.ImportFrom,
)
BARRED_NODES = (
    ast.GeneratorExp, ast.Yield, ast.YieldFrom, ast.Await, ast.Global, ast.AsyncFunctionDef,
    ast.Import, ast.AnnAssign, ast.NamedExpr, ast.Set, ast.Div, ast.Pow,
)
LIBRARY = {"math": ("gcd",), "heapq": ("heappop", "heappush")}
DUNDERS = {"__init__", "__eq__", "__repr__", "__str__", "__len__"}


def package_files():
    found = []
    for folder, folders, names in os.walk(PACKAGE):
        folders[:] = sorted(name for name in folders if name != "__pycache__")
        found.extend(os.path.join(folder, name) for name in sorted(names))
    return found


def module_name(path):
    parts = os.path.relpath(path, ROOT)[:-3].split(os.sep)
    return ".".join(parts[:-1] if parts[-1] == "__init__" else parts)


class LanguageTest(unittest.TestCase):
    @classmethod
    def setUpClass(cls):
        cls.sources = {}
        cls.trees = {}
        for path in package_files():
            with open(path, encoding="utf-8") as file:
                cls.sources[path] = file.read()
            with warnings.catch_warnings():
                warnings.simplefilter("error")
                cls.trees[path] = ast.parse(cls.sources[path])

    def walk(self, wanted):
        for path, tree in self.trees.items():
            for node in ast.walk(tree):
                if isinstance(node, wanted):
                    yield f"{os.path.relpath(path, ROOT)}:{getattr(node, 'lineno', 0)}", node

    def test_files(self):
        self.assertLessEqual(len(self.sources), 100)
        for path, source in self.sources.items():
            name = os.path.basename(path)
            self.assertTrue(name.endswith(".py") and name == name.lower() and "-" not in name, path)
            self.assertFalse(name.startswith("test") or name.startswith("law"), path)
            self.assertIn(os.path.join(os.path.dirname(path), "__init__.py"), self.sources)
            self.assertFalse(os.path.isdir(path[:-3]), path)
            self.assertTrue(all(" " <= sign <= "~" or sign == "\n" for sign in source), path)
            rows = source.split("\n")
            self.assertLessEqual(len(rows), 400, path)
            self.assertTrue(all(len(row) <= 120 for row in rows), path)
            for word in BARRED_WORDS:
                self.assertNotIn(word, source.replace('"', " ").split(), path)

    def test_module_level(self):
        for path, tree in self.trees.items():
            bound = []
            for at, node in enumerate(tree.body):
                if isinstance(node, ast.Expr):
                    self.assertTrue(at == 0 and isinstance(node.value, ast.Constant), path)
                elif isinstance(node, ast.ImportFrom):
                    bound.extend(name.name for name in node.names)
                elif isinstance(node, ast.Assign):
                    bound.append(node.targets[0].id)
                    for inner in ast.walk(node.value):
                        self.assertNotIsInstance(inner, (ast.Call, ast.BinOp), f"{path}:{node.lineno}")
                else:
                    self.assertIsInstance(node, (ast.FunctionDef, ast.ClassDef), path)
                    bound.append(node.name)
            self.assertEqual(len(bound), len(set(bound)), path)
            self.check_local_names(path, tree, bound)

    def check_local_names(self, path, tree, bound):
        barred = {node.name for node in ast.walk(tree) if isinstance(node, ast.ClassDef)}
        for node in ast.walk(tree):
            if isinstance(node, ast.ImportFrom):
                barred.update(name.name for name in node.names)
        barred.update(BARRED_NAMES, dir(builtins))
        for node in tree.body:
            if isinstance(node, (ast.FunctionDef, ast.ClassDef)):
                self.assertNotIn(node.name, dir(builtins), f"{path}:{node.lineno}")
        for node in ast.walk(tree):
            if isinstance(node, ast.Name) and isinstance(node.ctx, ast.Store):
                self.assertNotIn(node.id, barred, f"{path}:{node.lineno}")
            if isinstance(node, ast.arg):
                self.assertNotIn(node.arg, barred, f"{path}:{node.lineno}")

    def test_imports(self):
        defined = {}
        for path, tree in self.trees.items():
            names = set()
            for node in tree.body:
                if isinstance(node, (ast.FunctionDef, ast.ClassDef)):
                    names.add(node.name)
                elif isinstance(node, ast.Assign):
                    names.add(node.targets[0].id)
            defined[module_name(path)] = names
        used = {}
        for path, tree in self.trees.items():
            used[module_name(path)] = []
            loaded = {node.id for node in ast.walk(tree) if isinstance(node, ast.Name)}
            for node in ast.walk(tree):
                if isinstance(node, ast.ImportFrom) and node.module in LIBRARY:
                    self.assertTrue(all(name.name in LIBRARY[node.module] and not name.asname for name in node.names))
                elif isinstance(node, ast.ImportFrom):
                    self.assertIn(node.module, defined, path)
                    self.assertEqual(node.level, 0, path)
                    used[module_name(path)].append(node.module)
                    for name in node.names:
                        self.assertIsNone(name.asname, path)
                        self.assertIn(name.name, defined[node.module], path)
                        self.assertIn(name.name, loaded, f"{path} does not use {name.name}")
        self.check_no_ring(used)

    def check_no_ring(self, used):
        left = dict(used)
        while left:
            free = [name for name, others in left.items() if not any(other in left for other in others)]
            self.assertTrue(free, f"files that import from each other: {sorted(left)}")
            for name in free:
                del left[name]

    def test_statements_and_nodes(self):
        for where, node in self.walk(ast.stmt):
            self.assertIsInstance(node, STATEMENTS, where)
        for where, node in self.walk(BARRED_NODES):
            self.fail(f"{where}: {type(node).__name__}")
        for where, node in self.walk((ast.FunctionDef, ast.ClassDef)):
            self.assertEqual(node.decorator_list, [], where)
            if isinstance(node, ast.FunctionDef):
                self.assertLessEqual(node.end_lineno - node.lineno + 1, 40, where)
                self.assertIsNone(node.args.vararg, where)
                self.assertIsNone(node.args.kwarg, where)
                self.assertTrue(ast.get_docstring(node) or node.name in DUNDERS, where)
                if node.name.startswith("__"):
                    self.assertIn(node.name, DUNDERS, where)

    def test_strings(self):
        for where, node in self.walk(ast.Constant):
            if isinstance(node.value, str):
                self.assertNotIn("%", node.value, where)
                self.assertFalse(node.value.endswith(("._", ".__")), where)
                self.assertFalse(node.value.startswith("__") and node.value.endswith("__"), where)
            self.assertNotIsInstance(node.value, (float, bytes, complex), where)

    def test_names(self):
        own = {node.name for _, node in self.walk(ast.FunctionDef)}
        for where, node in self.walk(ast.Name):
            self.assertNotIn(node.id, BARRED_NAMES, where)
            self.assertFalse(node.id.startswith("__"), where)
            if isinstance(node.ctx, ast.Load) and node.id in dir(builtins):
                self.assertIn(node.id, BUILTINS, where)
        for where, node in self.walk(ast.Attribute):
            if isinstance(node.ctx, ast.Store):
                self.assertNotIn(node.attr, BARRED_ATTRIBUTES, where)
        for where, node in self.walk(ast.Call):
            if isinstance(node.func, ast.Attribute) and node.func.attr not in DUNDERS:
                self.assertIn(node.func.attr, VALUE_METHODS | own, where)
            for one in node.args:
                if isinstance(one, ast.Starred):
                    self.assertIsInstance(one.value, (ast.Name, ast.Attribute), where)
                    self.assertIn(getattr(node.func, "attr", getattr(node.func, "id", "")), own, where)

    def test_lambdas_only_tell_an_attribute_or_an_item_by_which_is_sorted(self):
        allowed = []
        for _, node in self.walk(ast.Call):
            if isinstance(node.func, ast.Name) and node.func.id == "sorted":
                allowed.extend(one.value for one in node.keywords if one.arg == "key")
        for where, node in self.walk(ast.Lambda):
            self.assertIn(node, allowed, where)
            self.assertIsInstance(node.body, (ast.Attribute, ast.Subscript), where)
            if isinstance(node.body, ast.Subscript):
                self.assertIsInstance(node.body.slice, ast.Constant, where)

    def test_is(self):
        for where, node in self.walk(ast.Compare):
            for sign, right in zip(node.ops, node.comparators):
                if isinstance(sign, (ast.Is, ast.IsNot)):
                    self.assertTrue(isinstance(right, ast.Constant) and right.value in (None, True, False), where)

    def test_sets_are_used_on_the_spot(self):
        for path, tree in self.trees.items():
            allowed = []
            for node in ast.walk(tree):
                if isinstance(node, ast.Call) and isinstance(node.func, ast.Name) and node.func.id in ("len", "sorted"):
                    allowed.extend(node.args)
            for node in ast.walk(tree):
                is_call = isinstance(node, ast.Call) and isinstance(node.func, ast.Name) and node.func.id == "set"
                if is_call or isinstance(node, ast.SetComp):
                    self.assertIn(node, allowed, f"{path}:{node.lineno}")

    def test_views_are_used_on_the_spot(self):
        for path, tree in self.trees.items():
            allowed = []
            for node in ast.walk(tree):
                if isinstance(node, (ast.For, ast.comprehension)):
                    allowed.append(node.iter)
                if isinstance(node, ast.Call) and isinstance(node.func, ast.Name) and node.args:
                    if node.func.id in ("list", "tuple", "dict", "sorted", "sum", "enumerate", "zip"):
                        allowed.extend(node.args)
            for node in ast.walk(tree):
                if isinstance(node, ast.Call):
                    name = node.func.id if isinstance(node.func, ast.Name) else getattr(node.func, "attr", "")
                    if name in ("zip", "enumerate", "reversed", "range", "items", "keys", "values"):
                        self.assertIn(node, allowed, f"{path}:{node.lineno}")

    def test_handlers(self):
        for where, node in self.walk(ast.ExceptHandler):
            self.assertIsInstance(node.type, ast.Name, where)
            self.assertIn(node.type.id, ("Fault", "Told", "KeyError"), where)

    def test_no_name_is_a_method_and_an_attribute_of_a_class(self):
        for where, node in self.walk(ast.ClassDef):
            methods = [one.name for one in node.body if isinstance(one, ast.FunctionDef)]
            self.assertEqual(len(methods), len(set(methods)), where)
            for inner in ast.walk(node):
                if isinstance(inner, ast.Attribute) and isinstance(inner.ctx, ast.Store):
                    if isinstance(inner.value, ast.Name) and inner.value.id == "self":
                        self.assertNotIn(inner.attr, methods, where)


if __name__ == "__main__":
    unittest.main()
