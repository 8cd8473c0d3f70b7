"""Rules of the language of the package, as far as its files show them; some are kept more narrowly than asked."""

import ast
import builtins
import unittest
from pathlib import Path

PACKAGE = Path(__file__).resolve().parent.parent / "allbrought"
FILES = sorted(PACKAGE.glob("*.py"))
LIBRARY = {
    "heapq": {"heappush", "heappop", "heapify", "heapreplace", "heappushpop"},
    "math": {"gcd", "lcm", "isqrt", "comb", "perm", "factorial"},
}
BUILTINS = set(
    "len range enumerate zip min max sum abs sorted reversed int str bool list tuple dict isinstance ord repr "
    "any all divmod Exception ValueError TypeError KeyError IndexError LookupError bytes super".split()
)
ERRORS_CAUGHT = {"KeyError", "ZeroDivisionError"}
METHODS = set(
    "append clear copy count endswith extend find get index insert isalnum isalpha isdigit islower isspace isupper "
    "items join keys ljust lower lstrip partition pop remove replace reverse rfind rjust rpartition rsplit rstrip "
    "setdefault split splitlines startswith strip update upper values zfill bit_length".split()
)
NEVER = set(
    "register mro elements open input law version_info with_traceback add_note attrgetter breakpoint builtins compile "
    "copyright credits delattr dir eval exec exit gc getattr globals hasattr help id importlib license locals "
    "methodcaller os quit setattr super type vars sys format format_map".split()
)
WORDS = set(
    "type typing typing_extensions enum Enum IntEnum StrEnum Flag IntFlag Generic Protocol ABC ABCMeta namedtuple "
    "NamedTuple TypedDict TYPE_CHECKING abstractmethod dataclass overload contextmanager".split()
)
BARRED_NAMES = (
    r"\A_(pe_|dcw_|enum_|cm_|twin_re_|lay_|law_|stub_|sre|wall)"
    r"|\A_(cold|tuplegetter|outside|record|written_out|member_names)[0-9_]*\Z"
)
DUNDERS = {"__init__", "__eq__"}
STATEMENTS = (
    ast.Assign, ast.AugAssign, ast.If, ast.While, ast.For, ast.Return, ast.Break, ast.Continue, ast.Pass, ast.Raise,
    ast.Delete, ast.Expr, ast.Try, ast.FunctionDef, ast.ClassDef, ast.ImportFrom, ast.Assert,
)
NOT_USED = (
    ast.GeneratorExp, ast.SetComp, ast.Set, ast.Yield, ast.YieldFrom, ast.Await, ast.NamedExpr, ast.Starred, ast.Global,
    ast.Nonlocal, ast.AsyncFunctionDef, ast.AsyncFor, ast.AsyncWith, ast.With, ast.Match, ast.AnnAssign, ast.Div,
    ast.MatMult, ast.Pow,
)


def tree_of(path):
    return ast.parse(path.read_text(), str(path))


def walked(kind):
    for path in FILES:
        for node in ast.walk(tree_of(path)):
            if isinstance(node, kind):
                yield path, node


def docstrings(tree):
    return {
        id(node.body[0].value)
        for node in ast.walk(tree)
        if isinstance(node, (ast.Module, ast.ClassDef, ast.FunctionDef)) and node.body
        and isinstance(node.body[0], ast.Expr) and isinstance(node.body[0].value, ast.Constant)
    }


def module_names(tree):
    names = []
    for node in tree.body:
        if isinstance(node, ast.ImportFrom):
            names.extend(alias.asname or alias.name for alias in node.names)
        elif isinstance(node, (ast.FunctionDef, ast.ClassDef)):
            names.append(node.name)
        elif isinstance(node, ast.Assign):
            names.extend(target.id for target in node.targets)
    return names


def local_names(function):
    arguments = function.args
    names = {argument.arg for argument in arguments.args + arguments.posonlyargs + arguments.kwonlyargs}
    return names | {
        node.id for node in ast.walk(function) if isinstance(node, ast.Name) and isinstance(node.ctx, ast.Store)
    }


class Language(unittest.TestCase):
    def at(self, path, node):
        return f"{path.name}:{getattr(node, 'lineno', 0)}"

    def test_files(self):
        self.assertEqual(sorted(PACKAGE.glob("*.py")), sorted(
            path for path in PACKAGE.iterdir() if path.name != "__pycache__"
        ))
        self.assertIn("__init__.py", [path.name for path in FILES])
        for path in FILES:
            self.assertRegex(path.name, r"\A([a-z][a-z0-9_]*|__init__)\.py\Z")
            self.assertNotIn(path.stem, NEVER | WORDS | set(dir(builtins)) | {"test", "tests", "testing", "site"})
            data = path.read_bytes()
            self.assertTrue(all(byte == 10 or 32 <= byte <= 126 for byte in data), path)
            lines = data.decode().split("\n")
            self.assertLessEqual(len(lines), 399, path)
            self.assertLessEqual(max(map(len, lines)), 120, path)

    def test_functions_are_short(self):
        for path, node in walked(ast.FunctionDef):
            self.assertLessEqual(node.end_lineno - node.lineno + 1, 40, self.at(path, node))
            self.assertEqual(node.decorator_list, [], self.at(path, node))
            self.assertIsNone(node.args.vararg or node.args.kwarg, self.at(path, node))

    def test_module_level(self):
        for path in FILES:
            tree = tree_of(path)
            names = module_names(tree)
            self.assertEqual(len(names), len(set(names)), path)
            for at, node in enumerate(tree.body):
                is_docstring = at == 0 and isinstance(node, ast.Expr) and isinstance(node.value, ast.Constant)
                kinds = (ast.ImportFrom, ast.FunctionDef, ast.ClassDef, ast.Assign)
                self.assertTrue(is_docstring or isinstance(node, kinds), self.at(path, node))
                if isinstance(node, ast.Assign):
                    self.assertEqual([isinstance(target, ast.Name) for target in node.targets], [True])

    def test_imports(self):
        needs = {}
        for path in FILES:
            tree = tree_of(path)
            imports = [node for node in ast.walk(tree) if isinstance(node, (ast.Import, ast.ImportFrom))]
            self.assertTrue(all(node in tree.body for node in imports))
            needs[path.stem] = []
            for node in imports:
                self.assertIsInstance(node, ast.ImportFrom, self.at(path, node))
                self.assertEqual(node.level, 0)
                names = [alias.name for alias in node.names]
                self.assertEqual([alias.asname for alias in node.names], [None] * len(names))
                if node.module in LIBRARY:
                    self.assertLessEqual(set(names), LIBRARY[node.module])
                    continue
                top, module = node.module.split(".")
                self.assertEqual(top, "allbrought")
                defined = tree_of(PACKAGE / (module + ".py")).body
                own = [item.name for item in defined if isinstance(item, (ast.FunctionDef, ast.ClassDef))]
                own += [item.targets[0].id for item in defined if isinstance(item, ast.Assign)]
                self.assertLessEqual(set(names), set(own), self.at(path, node))
                used = {item.id for item in ast.walk(tree) if isinstance(item, ast.Name)}
                self.assertLessEqual(set(names), used, self.at(path, node))
                needs[path.stem].append(module)
        left = dict(needs)
        while left:
            ready = [name for name, modules in left.items() if not set(modules) & set(left)]
            self.assertNotEqual(ready, [], left)
            for name in ready:
                del left[name]

    def test_kinds_of_nodes(self):
        for path, node in walked(ast.stmt):
            self.assertIsInstance(node, STATEMENTS, self.at(path, node))
        for path, node in walked(NOT_USED):
            self.fail(self.at(path, node))
        for path, node in walked(ast.Constant):
            self.assertIsInstance(node.value, (int, str, bool, type(None)), self.at(path, node))

    def test_names(self):
        for path in FILES:
            tree = tree_of(path)
            taken = {alias.name for node in tree.body if isinstance(node, ast.ImportFrom) for alias in node.names}
            taken |= {node.name for node in tree.body if isinstance(node, ast.ClassDef)}
            known = set(module_names(tree))
            for node in ast.walk(tree):
                if isinstance(node, (ast.FunctionDef, ast.Lambda)):
                    bound = local_names(node)
                    self.assertEqual(bound & (taken | NEVER | set(dir(builtins))), set(), self.at(path, node))
                    for name in bound:
                        self.assertRegex(name, r"\A(_|[A-Za-z][A-Za-z0-9_]*)\Z")
                if isinstance(node, (ast.FunctionDef, ast.ClassDef)) and node.name not in DUNDERS:
                    self.assertRegex(node.name, r"\A_?[A-Za-z][A-Za-z0-9_]*\Z")
                    self.assertNotIn(node.name, NEVER | set(dir(builtins)))
                if isinstance(node, ast.Attribute) and node.attr not in DUNDERS:
                    self.assertRegex(node.attr, r"\A_?[A-Za-z][A-Za-z0-9_]*\Z")
                if isinstance(node, ast.Attribute):
                    self.assertNotIn(node.attr, {"register", "mro", "elements", "open", "input", "law", "args"})
                for field in ("id", "name", "attr", "arg"):
                    self.assertNotRegex(str(getattr(node, field, "")), BARRED_NAMES)
                if isinstance(node, ast.Name) and isinstance(node.ctx, ast.Load):
                    self.assertNotEqual(node.id, "_", self.at(path, node))
            for function in [node for node in ast.walk(tree) if isinstance(node, ast.FunctionDef)]:
                bound = local_names(function) | {
                    name for node in ast.walk(tree) if isinstance(node, (ast.FunctionDef, ast.Lambda))
                    for name in local_names(node)
                }
                for node in ast.walk(function):
                    if isinstance(node, ast.Name) and node.id not in bound | known:
                        self.assertIn(node.id, BUILTINS, self.at(path, node))

    def test_builtins_and_classes_are_called(self):
        for path in FILES:
            tree = tree_of(path)
            classes = {node.name for node in tree.body if isinstance(node, ast.ClassDef)}
            right = set()
            for node in ast.walk(tree):
                if isinstance(node, ast.Call):
                    right.add(id(node.func))
                    if isinstance(node.func, ast.Name) and node.func.id == "isinstance":
                        self.assertEqual(len(node.args), 2)
                        kinds = node.args[1].elts if isinstance(node.args[1], ast.Tuple) else [node.args[1]]
                        right |= {id(kind) for kind in kinds}
                if isinstance(node, ast.ClassDef):
                    right |= {id(base) for base in node.bases}
                if isinstance(node, ast.ExceptHandler):
                    self.assertIsNotNone(node.type)
                    kinds = node.type.elts if isinstance(node.type, ast.Tuple) else [node.type]
                    right |= {id(kind) for kind in kinds}
                    for kind in kinds:
                        self.assertTrue(kind.id not in dir(builtins) or kind.id in ERRORS_CAUGHT)
                if isinstance(node, ast.Attribute) and isinstance(node.value, ast.Name) and node.attr == "__init__":
                    right.add(id(node.value))
            for node in ast.walk(tree):
                if isinstance(node, ast.Name) and node.id in classes | BUILTINS:
                    self.assertIn(id(node), right, self.at(path, node))
                if isinstance(node, ast.Raise):
                    self.assertIsInstance(node.exc, ast.Call, self.at(path, node))
                    self.assertTrue(node.cause is None or node.cause.value is None)

    def test_calls(self):
        own = {node.name for _, node in walked(ast.FunctionDef)}
        for path, node in walked(ast.Call):
            keywords = {keyword.arg for keyword in node.keywords}
            if isinstance(node.func, ast.Attribute):
                self.assertIn(node.func.attr, METHODS | own | DUNDERS, self.at(path, node))
                self.assertEqual(keywords, set(), self.at(path, node))
                self.assertNotIn(node.func.attr, {"sort"})
            else:
                self.assertIsInstance(node.func, ast.Name, self.at(path, node))
                allowed = {
                    "sorted": {"key", "reverse"}, "min": {"key", "default"}, "max": {"key", "default"},
                    "sum": {"start"}, "enumerate": {"start"}, "zip": {"strict"},
                }
                self.assertLessEqual(keywords, allowed.get(node.func.id, set()), self.at(path, node))

    def test_super_calls_the_method_of_the_base(self):
        for path in FILES:
            tree = tree_of(path)
            right = set()
            for node in ast.walk(tree):
                for method in node.body if isinstance(node, ast.ClassDef) and node.bases else []:
                    right |= {id(name) for name in self.supers_of(method)}
            for node in ast.walk(tree):
                if isinstance(node, ast.Name) and node.id == "super":
                    self.assertIn(id(node), right, self.at(path, node))
                if isinstance(node, (ast.Lambda, ast.ListComp, ast.DictComp)):
                    inner = [item.id for item in ast.walk(node) if isinstance(item, ast.Name)]
                    self.assertNotIn("super", inner, self.at(path, node))

    def supers_of(self, method):
        """The names in calls super().told(..) of a method called told."""
        found = []
        for node in ast.walk(method):
            if isinstance(node, ast.Call) and isinstance(node.func, ast.Attribute) and node.func.attr == method.name:
                inner = node.func.value
                if isinstance(inner, ast.Call) and not inner.args and isinstance(inner.func, ast.Name):
                    found.append(inner.func)
        return found

    def test_views_are_iterated_at_once(self):
        for path in FILES:
            tree = tree_of(path)
            right = set()
            for node in ast.walk(tree):
                if isinstance(node, (ast.For, ast.comprehension)):
                    right.add(id(node.iter))
                if isinstance(node, ast.Call) and isinstance(node.func, ast.Name) and node.args:
                    if node.func.id in {"list", "tuple", "dict", "sorted", "sum", "any", "all", "enumerate", "zip"}:
                        right |= {id(argument) for argument in node.args}
                if isinstance(node, ast.Compare):
                    right |= {id(item) for item in node.comparators}
            for node in ast.walk(tree):
                if isinstance(node, ast.Call) and id(node) not in right:
                    if isinstance(node.func, ast.Name):
                        self.assertNotIn(node.func.id, {"zip", "enumerate", "reversed", "range"}, self.at(path, node))
                    else:
                        self.assertFalse(node.func.attr in {"items", "keys", "values"}, self.at(path, node))

    def test_is_and_strings(self):
        for path, node in walked(ast.Compare):
            for operator, other in zip(node.ops, node.comparators):
                if isinstance(operator, (ast.Is, ast.IsNot)):
                    self.assertIsInstance(other, ast.Constant, self.at(path, node))
                    self.assertIn(other.value, (None, True, False))
        for path in FILES:
            tree = tree_of(path)
            docs = docstrings(tree)
            self.assertNotIn("_wall", path.read_text())
            for node in ast.walk(tree):
                if isinstance(node, ast.Constant) and isinstance(node.value, str) and id(node) not in docs:
                    self.assertNotIn("%", node.value, self.at(path, node))
                    self.assertFalse(node.value.endswith(("._", ".__")))
                    self.assertEqual(WORDS & set(node.value.replace(".", " ").split()), set(), self.at(path, node))

    def test_classes(self):
        methods, attributes = {}, {}
        for path, node in walked(ast.ClassDef):
            self.assertEqual(node.decorator_list + node.keywords, [])
            for item in node.body:
                is_docstring = item is node.body[0] and isinstance(item, ast.Expr)
                self.assertTrue(is_docstring or isinstance(item, ast.FunctionDef), self.at(path, item))
            names = [item.name for item in node.body if isinstance(item, ast.FunctionDef)]
            self.assertEqual(len(names), len(set(names)))
            for name in names:
                self.assertTrue(name in DUNDERS or not name.startswith("__"), name)
            methods[node.name] = set(names)
            attributes[node.name] = {
                item.attr for item in ast.walk(node) if isinstance(item, ast.Attribute)
                and isinstance(item.ctx, ast.Store) and isinstance(item.value, ast.Name) and item.value.id == "self"
            }
            self.assertEqual(methods[node.name] & attributes[node.name], set())
        assigned = set().union(*attributes.values())
        all_methods = set().union(*methods.values())
        self.assertEqual(assigned & all_methods - {"index"}, set())
        for path, node in walked(ast.Attribute):
            if isinstance(node.ctx, ast.Load):
                self.assertIn(node.attr, assigned | all_methods | METHODS, self.at(path, node))

    def test_no_loop_changes_what_it_goes_over(self):
        changing = {"append", "clear", "extend", "insert", "pop", "remove", "reverse", "setdefault", "update"}
        for path, node in walked(ast.For):
            over = {ast.dump(name).replace("Store()", "Load()") for name in ast.walk(node.iter)
                    if isinstance(name, (ast.Name, ast.Attribute))}
            for item in ast.walk(ast.Module(body=node.body, type_ignores=[])):
                changed = None
                if isinstance(item, ast.Call) and isinstance(item.func, ast.Attribute) and item.func.attr in changing:
                    changed = item.func.value
                elif isinstance(item, ast.Subscript) and not isinstance(item.ctx, ast.Load):
                    changed = item.value
                if changed is not None:
                    self.assertNotIn(ast.dump(changed), over, self.at(path, item))


if __name__ == "__main__":
    unittest.main()
