"""The package keeps to the subset of Python that is told for it."""

import ast
import builtins
import re
import unittest
from pathlib import Path

PACKAGE = Path(__file__).resolve().parent.parent / "otherhand"
FILES = sorted(PACKAGE.glob("*.py"))
BUILTINS = set(
    "len range enumerate zip min max sum abs sorted reversed int str bool list tuple dict set"
    " isinstance ord repr any all divmod ValueError staticmethod super".split()
)
LIBRARY = {"math": {"gcd", "lcm", "comb"}, "itertools": {"permutations"}}
DOUBLE = {"__init__", "__eq__", "__str__", "__len__", "__bool__", "__call__", "__contains__"}
METHODS = set(
    "append clear copy count endswith extend find get index insert isalnum isalpha isdigit"
    " items join keys ljust lower lstrip partition pop remove replace reverse rfind setdefault split"
    " startswith strip update upper values zfill bit_length".split()
)
STATEMENTS = (
    ast.Assign, ast.AugAssign, ast.If, ast.While, ast.For, ast.Return, ast.Break,
    ast.Continue, ast.Pass, ast.Raise, ast.Expr, ast.Try, ast.FunctionDef,
)
BARRED = re.compile(
    r"\b(type|typing|enum|Enum|Flag|Generic|Protocol|ABC|namedtuple|NamedTuple|abstractmethod)\b"
    r"|dataclass|overload|contextmanager"
)
NOT_NAMES = set(
    "register mro elements open input law version_info with_traceback add_note".split()
)
ONCE = {"zip", "enumerate", "reversed", "range", "items", "keys", "values"}
TAKING = {"list", "tuple", "dict", "sorted", "sum", "any", "all", "enumerate", "zip", "min", "max"}


def trees():
    return [(path, ast.parse(path.read_text())) for path in FILES]


def each(kind):
    return [
        (f"{path.name}:{getattr(node, 'lineno', 0)}", node)
        for path, tree in trees()
        for node in ast.walk(tree)
        if isinstance(node, kind)
    ]


def parents(tree):
    return {child: node for node in ast.walk(tree) for child in ast.iter_child_nodes(node)}


def called(node):
    if isinstance(node, ast.Call) and isinstance(node.func, ast.Name):
        return node.func.id
    if isinstance(node, ast.Call) and isinstance(node.func, ast.Attribute):
        return node.func.attr
    return None


class TestLanguage(unittest.TestCase):
    def test_files(self):
        self.assertLessEqual(len(FILES), 100)
        self.assertEqual({path.name for path in PACKAGE.iterdir()} - {"__pycache__"},
                         {path.name for path in FILES})
        for path in FILES:
            text = path.read_text()
            self.assertRegex(path.name, r"^[a-z0-9_]+\.py$")
            self.assertLessEqual(len(text.splitlines()), 399, path.name)
            self.assertLessEqual(max(map(len, text.splitlines())), 120, path.name)
            self.assertTrue(all(sign == "\n" or " " <= sign <= "~" for sign in text), path.name)
            self.assertIsNone(re.search("_wall|_WallAttr", text), path.name)

    def test_functions_are_short(self):
        for where, node in each(ast.FunctionDef):
            self.assertLessEqual(node.end_lineno - node.lineno + 1, 40, where)

    def test_imports(self):
        defined = {
            path.stem: {
                name
                for node in tree.body
                for name in (
                    [node.name] if isinstance(node, (ast.FunctionDef, ast.ClassDef))
                    else [target.id for target in node.targets] if isinstance(node, ast.Assign)
                    else []
                )
            }
            for path, tree in trees()
        }
        asked = {}
        for path, tree in trees():
            asked[path.stem] = set()
            head = True
            for node in tree.body:
                if isinstance(node, ast.ImportFrom):
                    self.assertTrue(head, path.name)
                    self.assertEqual(node.level, 0)
                    names = {alias.name for alias in node.names}
                    self.assertTrue(all(alias.asname is None for alias in node.names))
                    if node.module in LIBRARY:
                        self.assertLessEqual(names, LIBRARY[node.module])
                    else:
                        package, file = node.module.split(".")
                        self.assertEqual(package, "otherhand")
                        self.assertLessEqual(names, defined[file], path.name)
                        asked[path.stem].add(file)
                elif not (isinstance(node, ast.Expr) and head):
                    head = False
        self.assertEqual(each(ast.Import), [])
        while asked:
            free = [file for file, others in asked.items() if not others & set(asked)]
            self.assertTrue(free, f"files import from each other: {sorted(asked)}")
            for file in free:
                del asked[file]

    def test_imports_are_used(self):
        for path, tree in trees():
            names = {alias.name for node in tree.body if isinstance(node, ast.ImportFrom)
                     for alias in node.names}
            used = {node.id for node in ast.walk(tree) if isinstance(node, ast.Name)}
            self.assertEqual(names - used, set(), path.name)

    def test_module_level(self):
        for path, tree in trees():
            bound = []
            for at, node in enumerate(tree.body):
                if isinstance(node, ast.Assign):
                    self.assertEqual(len(node.targets), 1)
                    self.check_value(tree, node)
                    bound.append(node.targets[0].id)
                elif isinstance(node, ast.Expr):
                    self.assertTrue(at == 0 and isinstance(node.value, ast.Constant))
                elif isinstance(node, ast.ImportFrom):
                    bound += [alias.name for alias in node.names]
                else:
                    self.assertIsInstance(node, (ast.FunctionDef, ast.ClassDef))
                    bound.append(node.name)
            self.assertEqual(len(bound), len(set(bound)), path.name)

    def check_value(self, tree, node):
        """A plain value, or a dict of functions that are defined above it in its file."""
        above = {part.name for part in tree.body if isinstance(part, ast.FunctionDef) and part.lineno < node.lineno}
        names = [value for value in ast.walk(node.value) if isinstance(value, ast.Name)]
        if not names:
            ast.literal_eval(node.value)
            return
        self.assertIsInstance(node.value, ast.Dict)
        self.assertEqual([value for value in node.value.values if value not in names], [])
        self.assertLessEqual({name.id for name in names}, above)
        self.assertTrue(all(isinstance(ast.literal_eval(key), str) for key in node.value.keys))

    def test_statements(self):
        for path, tree in trees():
            for node in ast.walk(tree):
                if isinstance(node, ast.stmt) and not isinstance(node, STATEMENTS):
                    self.assertIsInstance(node, (ast.ImportFrom, ast.ClassDef))
        for where, node in each((ast.FunctionDef,)):
            for decorator in node.decorator_list:
                self.assertEqual(ast.unparse(decorator), "staticmethod", where)
            if node.name.startswith("__"):
                self.assertIn(node.name, DOUBLE, where)
        for where, node in each(ast.ExceptHandler):
            self.assertIn(ast.unparse(node.type), ("HandError", "BadText"), where)

    def test_expressions(self):
        barred = (ast.Set, ast.SetComp, ast.GeneratorExp, ast.Await, ast.Yield, ast.NamedExpr)
        self.assertEqual(each(barred), [])
        for where, node in each(ast.BinOp):
            self.assertNotIsInstance(node.op, (ast.Div, ast.Pow, ast.MatMult), where)
        for where, node in each(ast.Constant):
            self.assertNotIsInstance(node.value, (float, complex, bytes), where)
            if isinstance(node.value, str):
                self.assertNotIn("%", node.value, where)
        for where, node in each(ast.Compare):
            for sign, right in zip(node.ops, node.comparators):
                if isinstance(sign, (ast.Is, ast.IsNot)):
                    self.assertIn(ast.unparse(right), ("None", "True", "False"), where)

    def test_builtins_and_methods(self):
        own = {node.name for _, node in each((ast.FunctionDef, ast.ClassDef))}
        kept = {node.attr for _, node in each(ast.Attribute) if isinstance(node.ctx, ast.Store)}
        for where, node in each(ast.Name):
            if isinstance(node.ctx, ast.Load) and hasattr(builtins, node.id):
                self.assertIn(node.id, BUILTINS, where)
            if not isinstance(node.ctx, ast.Load) and node.id != "_":
                self.assertFalse(hasattr(builtins, node.id), where)
            self.assertNotIn(node.id, NOT_NAMES, where)
        for where, node in each(ast.Name):
            self.assertFalse(node.id == "_" and isinstance(node.ctx, ast.Load), where)
        for where, node in each(ast.Attribute):
            if node.attr not in ("__class__", "__name__", "__init__"):
                self.assertIn(node.attr, METHODS | own | kept, where)
        for where, node in each(ast.Call):
            if isinstance(node.func, ast.Attribute):
                self.assertIn(node.func.attr, METHODS | own | {"__init__"}, where)
            for keyword in node.keywords:
                self.assertIn(keyword.arg, ("key", "reverse"), where)

    def test_names(self):
        for path, tree in trees():
            barred = {node.name for node in tree.body if isinstance(node, ast.ClassDef)}
            barred |= {alias.name for node in tree.body if isinstance(node, ast.ImportFrom)
                       for alias in node.names}
            own = {node.name for node in tree.body if isinstance(node, ast.FunctionDef)}
            for node in ast.walk(tree):
                names = []
                if isinstance(node, ast.arg):
                    names = [node.arg]
                elif isinstance(node, ast.Name) and isinstance(node.ctx, ast.Store):
                    names = [node.id]
                for name in names:
                    # The interface itself tells a parameter so in these two files.
                    if (path.name, name) not in (("letters.py", "letters"), ("windows.py", "windows")):
                        self.assertNotIn(name, barred | own, f"{path.name}:{node.lineno}")
                    self.assertNotIn(name, barred, f"{path.name}:{node.lineno}")
                    self.assertFalse(hasattr(builtins, name) and name != "_", name)
                    self.assertRegex(name, "^(_|[a-zA-Z][a-zA-Z0-9_]*)$")
            text = "\n".join(
                node.value for node in ast.walk(tree)
                if isinstance(node, ast.Constant) and isinstance(node.value, str)
                and not isinstance(parents(tree)[node], ast.Expr)
            )
            self.assertIsNone(BARRED.search(text), path.name)

    def test_iterated_at_once(self):
        for path, tree in trees():
            above = parents(tree)
            for node in ast.walk(tree):
                if called(node) in ONCE:
                    by = above[node]
                    fine = isinstance(by, (ast.For, ast.comprehension)) and by.iter is node
                    fine = fine or called(by) in TAKING
                    self.assertTrue(fine, f"{path.name}:{node.lineno}")

    def test_classes(self):
        for where, node in each(ast.ClassDef):
            methods = {part.name for part in node.body if isinstance(part, ast.FunctionDef)}
            kept = {part.attr for part in ast.walk(node)
                    if isinstance(part, ast.Attribute) and isinstance(part.ctx, ast.Store)}
            self.assertEqual(methods & kept, set(), where)
            for part in node.body:
                if isinstance(part, ast.FunctionDef) and part.name in ("__str__", "__len__"):
                    last = part.body[-1]
                    self.assertIsInstance(last, ast.Return, where)
                    self.assertIn(called(last.value), ("join", "len"), where)
                    for inner in ast.walk(part):
                        if isinstance(inner, ast.Assign):
                            fresh = isinstance(inner.value, (ast.ListComp, ast.DictComp))
                            self.assertTrue(fresh or called(inner.value) == "dict", where)


if __name__ == "__main__":
    unittest.main()
