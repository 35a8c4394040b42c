"""What can be told of the files of the package at sight: sizes, signs, names, imports, statements."""

import ast
import builtins
import unittest
from pathlib import Path

FOLDER = Path(__file__).resolve().parent.parent / "belltables"
FILES = sorted(FOLDER.rglob("*.py"))
LIBRARY = {
    "heapq": {"heappush", "heappop", "heapify", "heapreplace", "heappushpop"},
    "math": {"gcd", "lcm", "isqrt", "comb", "perm", "factorial"},
    "itertools": {"product", "combinations", "permutations", "chain", "accumulate", "pairwise", "islice",
                  "zip_longest"},
    "collections": {"defaultdict"},
}
KNOWN = set(
    "len range enumerate zip min max sum abs sorted reversed int str bool bytes list tuple dict set frozenset "
    "isinstance ord repr any all divmod pow getattr hasattr setattr Exception ValueError TypeError KeyError "
    "IndexError LookupError "
    "ZeroDivisionError ArithmeticError OverflowError RuntimeError NotImplementedError AttributeError StopIteration "
    "NotImplemented iter next map property staticmethod classmethod super object float".split())
BARRED = {"register", "mro", "elements", "open", "input", "law", "version_info", "with_traceback", "add_note"}
WORDS = {"typing", "enum", "Enum", "Generic", "Protocol", "ABC", "namedtuple", "NamedTuple", "TypedDict"}
METHODS = set(
    "append clear copy count endswith extend find get index insert isalnum isalpha isdigit islower isspace isupper "
    "items join keys ljust lower lstrip partition pop remove replace reverse rfind rjust rpartition rsplit rstrip "
    "setdefault split splitlines startswith strip update upper values zfill bit_length".split())
CHANGING = {"append", "clear", "extend", "insert", "pop", "remove", "reverse", "setdefault", "update"}
AT_ONCE = {"list", "tuple", "dict", "sorted", "sum", "any", "all", "enumerate", "zip", "min", "max", "reversed", "len",
           "permutations"}
STORED = {"zip", "enumerate", "reversed", "range", "map"}
MODULE_LEVEL = (ast.ImportFrom, ast.FunctionDef, ast.ClassDef, ast.Assign)
STATEMENTS = MODULE_LEVEL + (
    ast.AugAssign, ast.AnnAssign, ast.If, ast.While, ast.For, ast.Return, ast.Break, ast.Continue, ast.Pass, ast.Raise,
    ast.Assert, ast.Delete, ast.Nonlocal, ast.Match, ast.With, ast.Try, ast.Expr)


def assigned(tree):
    """All names that are bound somewhere in a tree."""
    names = set()
    for node in ast.walk(tree):
        if isinstance(node, ast.Name) and not isinstance(node.ctx, ast.Load):
            names.add(node.id)
        elif isinstance(node, ast.arg):
            names.add(node.arg)
        elif isinstance(node, ast.ExceptHandler) and node.name:
            names.add(node.name)
    return names


class Rules(unittest.TestCase):
    def setUp(self):
        self.trees = {path: ast.parse(path.read_text()) for path in FILES}

    def test_files(self):
        self.assertTrue(FILES)
        for path in FOLDER.rglob("*"):
            if "__pycache__" not in path.parts:
                self.assertTrue(path.suffix == ".py" or path.is_dir(), path)
        for path in FILES:
            text = path.read_text()
            self.assertTrue(all(sign == "\n" or " " <= sign <= "~" for sign in text), path)
            self.assertLessEqual(len(text.splitlines()), 399, path)
            for at, line in enumerate(text.splitlines(), 1):
                self.assertLessEqual(len(line), 120, (path, at))

    def test_functions(self):
        for path, tree in self.trees.items():
            for node in ast.walk(tree):
                if isinstance(node, ast.FunctionDef):
                    self.assertLessEqual(node.end_lineno - node.lineno + 1, 40, (path, node.name))
                    self.assertTrue(ast.get_docstring(node) or node.name == "__init__", (path, node.name))

    def test_statements(self):
        for path, tree in self.trees.items():
            for node in tree.body[1:]:
                self.assertIsInstance(node, MODULE_LEVEL, (path, node.lineno))
            for node in ast.walk(tree):
                if isinstance(node, ast.stmt):
                    self.assertIsInstance(node, STATEMENTS, (path, node.lineno))
                if isinstance(node, ast.BinOp):
                    self.assertNotIsInstance(node.op, (ast.Div, ast.MatMult), (path, node.lineno))
                if isinstance(node, ast.Constant):
                    self.assertNotIsInstance(node.value, (float, complex), (path, node.lineno))
                    self.assertNotIn("%", node.value if isinstance(node.value, str) else "", (path, node.lineno))

    def test_imports(self):
        for path, tree in self.trees.items():
            for node in ast.walk(tree):
                self.assertNotIsInstance(node, ast.Import, path)
                if not isinstance(node, ast.ImportFrom):
                    continue
                self.assertIn(node, tree.body)
                self.assertEqual(node.level, 0)
                names = {alias.name for alias in node.names}
                if node.module in LIBRARY:
                    self.assertLessEqual(names, LIBRARY[node.module], path)
                    self.assertFalse(names & assigned(tree), path)
                    continue
                source = FOLDER.parent / (node.module.replace(".", "/") + ".py")
                self.assertIn(source, FILES, path)
                told = {each.name for each in self.trees[source].body if hasattr(each, "name")}
                told |= {target.id for each in self.trees[source].body if isinstance(each, ast.Assign)
                         for target in each.targets}
                self.assertLessEqual(names, told, path)

    def test_no_ring_of_imports(self):
        needs = {path.stem: {node.module.split(".")[1] for node in tree.body if isinstance(node, ast.ImportFrom)
                             and node.module.startswith("belltables.")} for path, tree in self.trees.items()}
        while needs:
            free = [name for name, others in needs.items() if not others & set(needs)]
            self.assertTrue(free, needs)
            needs = {name: others for name, others in needs.items() if name not in free}

    def test_names(self):
        for path, tree in self.trees.items():
            imported = {alias.name for node in tree.body if isinstance(node, ast.ImportFrom) for alias in node.names}
            classes = {node.name for node in tree.body if isinstance(node, ast.ClassDef)}
            own = {node.name for node in ast.walk(tree) if isinstance(node, (ast.FunctionDef, ast.ClassDef))}
            bound = assigned(tree)
            self.assertFalse(bound & (imported | classes), path)
            self.assertFalse((bound | own) & set(dir(builtins)), path)
            self.assertFalse((bound | own) & BARRED, path)
            top = [node.name for node in tree.body if hasattr(node, "name")]
            self.assertEqual(len(top), len(set(top)), path)
            for node in ast.walk(tree):
                if isinstance(node, ast.Name):
                    self.assertIn(node.id, bound | own | imported | KNOWN, (path, node.lineno))
                    self.assertFalse(node.id == "_" and isinstance(node.ctx, ast.Load), (path, node.lineno))
                    self.assertNotIn(node.id, WORDS)
                if isinstance(node, ast.Attribute):
                    self.assertNotIn(node.attr, BARRED)
                    self.assertFalse(node.attr.startswith("__") and node.attr != "__init__", (path, node.lineno))

    def test_imports_are_used(self):
        for path, tree in self.trees.items():
            used = {node.id for node in ast.walk(tree) if isinstance(node, ast.Name)}
            for node in tree.body:
                if isinstance(node, ast.ImportFrom):
                    self.assertLessEqual({alias.name for alias in node.names}, used, path)

    def test_methods(self):
        """Methods are those of the list, or own ones; without keywords and stars."""
        own = {node.name for tree in self.trees.values() for each in tree.body if isinstance(each, ast.ClassDef)
               for node in each.body if isinstance(node, ast.FunctionDef)}
        for path, tree in self.trees.items():
            for node in ast.walk(tree):
                if isinstance(node, ast.Call) and isinstance(node.func, ast.Attribute):
                    self.assertIn(node.func.attr, METHODS | own, (path, node.lineno))
                    self.assertFalse(node.keywords, (path, node.lineno))
                    self.assertFalse(any(isinstance(each, ast.Starred) for each in node.args), (path, node.lineno))

    def test_is(self):
        for path, tree in self.trees.items():
            for node in ast.walk(tree):
                if isinstance(node, ast.Compare):
                    for sign, other in zip(node.ops, node.comparators):
                        if isinstance(sign, (ast.Is, ast.IsNot)):
                            self.assertTrue(isinstance(other, ast.Constant) and other.value in (None, True, False),
                                            (path, node.lineno))

    def test_iterated_at_once(self):
        for path, tree in self.trees.items():
            above = {below: node for node in ast.walk(tree) for below in ast.iter_child_nodes(node)}
            for node in ast.walk(tree):
                self.assertNotIsInstance(node, (ast.GeneratorExp, ast.Yield, ast.NamedExpr, ast.Global), path)
                if isinstance(node, ast.Call) and isinstance(node.func, ast.Name) and node.func.id in STORED:
                    user = above[node]
                    looped = isinstance(user, (ast.For, ast.comprehension)) and user.iter is node
                    called = isinstance(user, ast.Call) and isinstance(user.func, ast.Name) and user.func.id in AT_ONCE
                    self.assertTrue(looped or called, (path, node.lineno))

    def test_loops(self):
        """What a loop iterates over is not changed in it."""
        for path, tree in self.trees.items():
            for loop in ast.walk(tree):
                if not isinstance(loop, ast.For):
                    continue
                source = loop.iter
                if isinstance(source, ast.Call) and isinstance(source.func, ast.Name) and source.func.id == "list":
                    continue
                names = {node.id for node in ast.walk(source) if isinstance(node, ast.Name)}
                for node in [node for row in loop.body for node in ast.walk(row)]:
                    if isinstance(node, ast.Call) and isinstance(node.func, ast.Attribute) and (
                            node.func.attr in CHANGING and isinstance(node.func.value, ast.Name)):
                        self.assertNotIn(node.func.value.id, names, (path, node.lineno))

    def test_double_underscores(self):
        """Few methods of this kind; those that tell a length or leave a `with` do nothing else."""
        for path, tree in self.trees.items():
            for kind in ast.walk(tree):
                if not isinstance(kind, ast.ClassDef):
                    continue
                self.assertIn(kind, tree.body)
                for node in kind.body:
                    self.assertTrue(isinstance(node, ast.FunctionDef) or (
                        isinstance(node, ast.Expr) and isinstance(node.value, ast.Constant)), (path, node.lineno))
                    if isinstance(node, ast.FunctionDef) and node.name.startswith("__"):
                        self.assertIn(node.name, {"__init__", "__len__", "__bool__", "__enter__", "__exit__"})
                    if isinstance(node, ast.FunctionDef) and node.name in ("__len__", "__bool__"):
                        self.assertEqual([type(row) for row in node.body], [ast.Expr, ast.Return])
                    if isinstance(node, ast.FunctionDef) and node.name == "__exit__":
                        self.leaves(path, node)

    def leaves(self, path, method):
        """The rows of an `__exit__`: attributes assigned attributes, and a look whether there was an exception."""
        for node in [node for row in method.body[1:] for node in ast.walk(row)]:
            self.assertIsInstance(node, (ast.Assign, ast.If, ast.Compare, ast.IsNot, ast.Name, ast.Attribute,
                                         ast.Constant, ast.expr_context), (path, method.lineno))
            if isinstance(node, ast.Assign):
                self.assertIsInstance(node.value, ast.Attribute)
            if isinstance(node, ast.Name):
                self.assertNotIn(node.id, ("value", "trace"))
            if isinstance(node, ast.If):
                self.assertEqual(ast.unparse(node.test), "kind is not None")

    def test_tables(self):
        """What is assigned at module level is plain, or a dict of functions that stand above it."""
        for path, tree in self.trees.items():
            above = set()
            for node in tree.body:
                if isinstance(node, ast.FunctionDef):
                    above.add(node.name)
                if isinstance(node, ast.Assign):
                    self.assertEqual(len(node.targets), 1)
                    self.assertIsInstance(node.targets[0], ast.Name)
                    for inside in ast.walk(node.value):
                        if isinstance(inside, ast.Name):
                            self.assertIn(inside.id, above, (path, node.lineno))
                        self.assertNotIsInstance(inside, (ast.Call, ast.List, ast.Set), (path, node.lineno))

    def test_tables_are_read(self):
        """A dict of the module level is read by an index or by `in` alone, and what it gives has a name when called."""
        for path, tree in self.trees.items():
            dicts = {node.targets[0].id for node in tree.body
                     if isinstance(node, ast.Assign) and isinstance(node.value, ast.Dict)}
            above = {below: node for node in ast.walk(tree) for below in ast.iter_child_nodes(node)}
            for node in ast.walk(tree):
                if isinstance(node, ast.Name) and node.id in dicts and isinstance(node.ctx, ast.Load):
                    user = above[node]
                    self.assertIsInstance(user, (ast.Subscript, ast.Compare), (path, node.lineno))
                    self.assertNotIsInstance(above[user], ast.Call)

    def test_handlers(self):
        """Own errors alone are caught."""
        for path, tree in self.trees.items():
            for node in ast.walk(tree):
                if isinstance(node, ast.Try):
                    self.assertFalse(node.finalbody)
                    for handler in node.handlers:
                        self.assertEqual((handler.type.id, handler.name), ("LabError", None), path)
                if isinstance(node, ast.Raise):
                    self.assertTrue(isinstance(node.exc, ast.Call) and isinstance(node.exc.func, ast.Name), path)

    def test_sets(self):
        """A set is not iterated."""
        for path, tree in self.trees.items():
            for node in ast.walk(tree):
                if isinstance(node, (ast.For, ast.comprehension)):
                    source = node.iter
                    self.assertNotIsInstance(source, (ast.Set, ast.SetComp), path)
                    self.assertFalse(isinstance(source, ast.Call) and isinstance(source.func, ast.Name)
                                     and source.func.id == "set", path)


if __name__ == "__main__":
    unittest.main()
