"""The package keeps to the subset of Python: the rules that a look at the code can tell.

The subset here is narrower than the rules allow: the package does without most of what they tell.
"""

import ast
import builtins
import pathlib
import re
import tokenize
import unittest

ROOT = pathlib.Path(__file__).resolve().parent.parent / "everytongue"
FILES = sorted(ROOT.rglob("*"))
SOURCES = [path for path in FILES if path.suffix == ".py"]

NODES = (
    ast.Module, ast.ImportFrom, ast.alias, ast.FunctionDef, ast.ClassDef, ast.arguments, ast.arg, ast.Assign,
    ast.AugAssign, ast.Delete, ast.Expr, ast.Return, ast.Raise, ast.If, ast.For, ast.While, ast.Break, ast.Continue,
    ast.Pass, ast.BoolOp, ast.And, ast.Or, ast.BinOp, ast.Add, ast.Sub, ast.Mult, ast.FloorDiv, ast.Mod, ast.Pow,
    ast.UnaryOp, ast.Not, ast.USub, ast.Compare, ast.Eq, ast.NotEq, ast.Lt, ast.LtE, ast.Gt, ast.GtE, ast.In, ast.NotIn,
    ast.Is, ast.IsNot, ast.Call, ast.keyword, ast.Constant, ast.Name, ast.Load, ast.Store, ast.Del, ast.Attribute,
    ast.Subscript, ast.Slice, ast.List, ast.Tuple, ast.Dict, ast.ListComp, ast.DictComp, ast.comprehension, ast.IfExp,
    ast.Lambda, ast.LShift, ast.RShift, ast.BitAnd, ast.BitOr, ast.JoinedStr, ast.FormattedValue)
BUILTINS = ("len", "range", "enumerate", "zip", "min", "max", "sum", "abs", "sorted", "reversed", "int", "str", "bool",
            "list", "tuple", "dict", "set", "isinstance", "ord", "repr", "any", "all", "divmod", "ValueError")
METHODS = ("append", "bit_length", "clear", "copy", "count", "endswith", "extend", "find", "get", "index", "insert", "items", "join",
           "keys", "pop", "remove", "replace", "reverse", "setdefault", "split", "startswith", "strip", "update",
           "values")
LIBRARY = {"heapq": ("heappush", "heappop"), "math": ("gcd", "isqrt", "lcm")}
DUNDERS = ("__init__", "__len__", "__eq__")
SPOTS = ("list", "tuple", "dict", "sorted", "sum", "any", "all", "enumerate", "zip", "min", "max")
CHANGES = ("append", "clear", "extend", "insert", "pop", "remove", "reverse", "setdefault", "update")
# Doctests leave an underscore behind.
BUILTIN = [name for name in dir(builtins) if name != "_"]
BARRED = ("register", "mro", "elements", "open", "input", "law", "version_info", "with_traceback", "add_note", "typing",
          "typing_extensions", "enum", "Enum", "IntEnum", "StrEnum", "Flag", "IntFlag", "Generic", "Protocol", "ABC",
          "ABCMeta", "namedtuple", "NamedTuple", "TypedDict", "TYPE_CHECKING", "abstractmethod", "type", "attrgetter",
          "methodcaller", "os", "sys", "gc", "importlib", "quit", "builtins")


def parents(tree):
    """For each node of the tree the one around it."""
    return {inner: outer for outer in ast.walk(tree) for inner in ast.iter_child_nodes(outer)}


def called(node, names):
    """Whether the node is a call of one of these names."""
    return isinstance(node, ast.Call) and isinstance(node.func, ast.Name) and node.func.id in names


class Language(unittest.TestCase):

    def each(self):
        for path in SOURCES:
            text = path.read_text(encoding="utf-8")
            with self.subTest(file=path.name):
                yield path, text, ast.parse(text)

    def test_files(self):
        self.assertTrue(len(SOURCES) <= 100)
        for path in FILES:
            if "__pycache__" not in path.parts:
                self.assertIn(path, SOURCES)
                self.assertTrue(re.fullmatch("[a-z0-9_]+", path.stem))
                self.assertEqual(path.parent, ROOT)
                self.assertFalse(re.match("test|law_|site|conftest", path.stem))
                self.assertNotIn(path.stem, BUILTIN)

    def test_size(self):
        for _, text, tree in self.each():
            lines = text.split("\n")
            self.assertTrue(len(lines) <= 399)
            self.assertTrue(all([len(line) <= 120 for line in lines]))
            self.assertTrue(all([sign == "\n" or " " <= sign <= "~" for sign in text]))
            for node in ast.walk(tree):
                if isinstance(node, ast.FunctionDef):
                    self.assertTrue(node.end_lineno - node.lineno < 40, node.name)

    def test_nodes(self):
        for _, _, tree in self.each():
            for node in ast.walk(tree):
                self.assertIsInstance(node, NODES, getattr(node, "lineno", ""))
                if isinstance(node, ast.Constant):
                    self.assertIn(type(node.value), (int, str, bool, type(None)))
                    if isinstance(node.value, str):
                        self.assertNotIn("%", node.value)
                if isinstance(node, ast.BinOp) and isinstance(node.op, ast.Pow):
                    self.assertTrue(isinstance(node.right, ast.Constant) and 0 <= node.right.value <= 64)
                if isinstance(node, ast.Compare):
                    for sign, right in zip(node.ops, node.comparators):
                        if isinstance(sign, (ast.Is, ast.IsNot)):
                            self.assertTrue(isinstance(right, ast.Constant) and right.value in (None, True, False))
                if isinstance(node, (ast.FunctionDef, ast.ClassDef)):
                    self.assertEqual(node.decorator_list, [])
                    self.assertTrue(ast.get_docstring(node) or node.name == "__init__", node.name)

    def test_module_level(self):
        for _, _, tree in self.each():
            self.assertTrue(ast.get_docstring(tree))
            for node in tree.body[1:]:
                self.assertIsInstance(node, (ast.ImportFrom, ast.FunctionDef, ast.ClassDef, ast.Assign))
                if isinstance(node, ast.Assign):
                    ast.literal_eval(node.value)
                    self.assertTrue(len(node.targets) == 1 and isinstance(node.targets[0], ast.Name))

    def test_imports(self):
        leads = {}
        for path, text, tree in self.each():
            leads[path.stem] = []
            for node in ast.walk(tree):
                if not isinstance(node, ast.ImportFrom):
                    continue
                self.assertIn(node, tree.body)
                self.assertEqual(node.level, 0)
                for alias in node.names:
                    self.assertIsNone(alias.asname)
                    self.assertTrue(len(re.findall(r"\b" + alias.name + r"\b", text)) > 1, alias.name)
                if node.module in LIBRARY:
                    self.assertTrue(all([alias.name in LIBRARY[node.module] for alias in node.names]))
                    continue
                package, name = node.module.split(".")
                self.assertEqual(package, "everytongue")
                leads[path.stem].append(name)
                other = ast.parse((ROOT / (name + ".py")).read_text())
                own = self.bound(other, imports=False)
                self.assertTrue(all([alias.name in own for alias in node.names]), node.module)
        done = set()
        while len(done) < len(leads):
            ready = {name for name in leads if name not in done and set(leads[name]) <= done}
            self.assertTrue(ready, "files import from each other")
            done |= ready

    def bound(self, tree, imports=True):
        """The names that a file binds at module level, in sequence."""
        names = []
        for node in tree.body:
            if isinstance(node, (ast.FunctionDef, ast.ClassDef)):
                names.append(node.name)
            elif isinstance(node, ast.Assign):
                names.append(node.targets[0].id)
            elif isinstance(node, ast.ImportFrom) and imports:
                names.extend([alias.name for alias in node.names])
        return names

    def test_names(self):
        for _, _, tree in self.each():
            names = self.bound(tree)
            self.assertEqual(len(set(names)), len(names))
            for node in ast.walk(tree):
                found = []
                if isinstance(node, ast.Name) and isinstance(node.ctx, ast.Store):
                    found = [node.id]
                elif isinstance(node, ast.arg):
                    found = [node.arg]
                elif isinstance(node, (ast.FunctionDef, ast.ClassDef)) and node.name not in DUNDERS:
                    found = [node.name]
                elif isinstance(node, ast.Attribute):
                    self.assertNotIn(node.attr, BARRED)
                for name in found:
                    self.assertTrue(re.fullmatch("_?[A-Za-z][A-Za-z0-9_]*|_", name), name)
                    self.assertNotIn(name, BUILTIN + list(BARRED))
                    if isinstance(node, (ast.Name, ast.arg)) and names.count(name):
                        self.assertIn(name, [names for names in names if names.isupper()], name)

    def test_no_underscore_is_read(self):
        for _, _, tree in self.each():
            for node in ast.walk(tree):
                if isinstance(node, ast.Name) and node.id == "_":
                    self.assertIsInstance(node.ctx, ast.Store)

    def test_words(self):
        for path, text, _ in self.each():
            with open(path, "rb") as file:
                for token in tokenize.tokenize(file.readline):
                    if token.type == tokenize.NAME:
                        self.assertNotIn(token.string, BARRED)
            for word in ("dataclass", "overload", "contextmanager", "_wall", "_WallAttr"):
                self.assertNotIn(word, text)

    def own_methods(self):
        """The methods of the package's classes, each with the classes that define it."""
        found = {}
        for path in SOURCES:
            for node in ast.parse(path.read_text(encoding="utf-8")).body:
                if isinstance(node, ast.ClassDef):
                    for inner in node.body:
                        if isinstance(inner, ast.FunctionDef):
                            found.setdefault(inner.name, []).append(node.name)
        return found

    def test_classes(self):
        """No name is a method and an attribute; __len__ and __eq__ only look."""
        methods = self.own_methods()
        for _, _, tree in self.each():
            for node in ast.walk(tree):
                if isinstance(node, ast.Attribute) and isinstance(node.ctx, ast.Store):
                    self.assertNotIn(node.attr, methods)
                    self.assertTrue(isinstance(node.value, ast.Name) and node.value.id == "self", node.attr)
                if isinstance(node, ast.FunctionDef) and node.name in ("__len__", "__eq__"):
                    for inner in ast.walk(node):
                        self.assertNotIsInstance(inner, (ast.Assign, ast.AugAssign, ast.Delete))
                        if isinstance(inner, ast.Call):
                            name = inner.func.id if isinstance(inner.func, ast.Name) else inner.func.attr
                            self.assertIn(name, ("isinstance", "len", "log"))

    def test_calls(self):
        own = list(self.own_methods())
        for _, _, tree in self.each():
            for node in ast.walk(tree):
                if isinstance(node, ast.Name) and node.id in BUILTIN:
                    self.assertIn(node.id, BUILTINS)
                if not isinstance(node, ast.Call):
                    continue
                self.assertFalse([part for part in node.args if isinstance(part, ast.Starred)])
                if isinstance(node.func, ast.Attribute):
                    self.assertIn(node.func.attr, METHODS + tuple(own))
                    self.assertEqual(node.keywords, [])
                for keyword in node.keywords:
                    allowed = {"sorted": ("key",), "min": ("key", "default"), "max": ("key", "default")}
                    self.assertIn(keyword.arg, allowed[node.func.id])

    def test_iterated_on_the_spot(self):
        for _, _, tree in self.each():
            around = parents(tree)
            for node in ast.walk(tree):
                view = isinstance(node, ast.Call) and isinstance(node.func, ast.Attribute)
                view = view and node.func.attr in ("items", "keys", "values")
                if not view and not called(node, ("zip", "enumerate", "reversed", "range")):
                    continue
                outer = around[node]
                fits = isinstance(outer, (ast.For, ast.comprehension)) and outer.iter is node
                fits = fits or called(outer, SPOTS) and outer.args[0] is node
                fits = fits or called(outer, ("reversed",)) and called(node, ("range",))
                self.assertTrue(fits, node.lineno)

    def test_sets(self):
        for _, _, tree in self.each():
            around = parents(tree)
            for node in ast.walk(tree):
                if called(node, ("set",)):
                    self.assertTrue(called(around[node], ("len", "sorted")))

    def test_loops_do_not_change_what_they_go_over(self):
        for _, _, tree in self.each():
            for loop in ast.walk(tree):
                if isinstance(loop, ast.For):
                    over = {ast.unparse(part) for part in ast.walk(loop.iter)
                            if isinstance(part, (ast.Name, ast.Subscript))}
                    for node in [node for row in loop.body for node in ast.walk(row)]:
                        if isinstance(node, ast.Call) and isinstance(node.func, ast.Attribute):
                            if node.func.attr in CHANGES:
                                self.assertNotIn(ast.unparse(node.func.value), over, loop.lineno)
                        if isinstance(node, ast.Subscript) and not isinstance(node.ctx, ast.Load):
                            self.assertNotIn(ast.unparse(node.value), over, loop.lineno)

    def test_lambdas(self):
        """No two on one line have the same parameters, and no comprehension in one has a name from around it."""
        for _, _, tree in self.each():
            lines = []
            around = parents(tree)
            for node in ast.walk(tree):
                if isinstance(node, ast.Lambda):
                    lines.append((node.lineno, tuple([arg.arg for arg in node.args.args])))
                    outer = node
                    while not isinstance(outer, ast.FunctionDef):
                        outer = around[outer]
                    names = [inner.id for row in outer.body for inner in self.own_names(row)]
                    names += [arg.arg for arg in outer.args.args]
                    for inner in ast.walk(node):
                        if isinstance(inner, ast.comprehension):
                            for name in ast.walk(inner.target):
                                self.assertNotIn(getattr(name, "id", ""), names, node.lineno)
            self.assertEqual(len(set(lines)), len(lines))

    def own_names(self, node):
        """The names that a row of a function assigns, without those of comprehensions and lambdas."""
        if isinstance(node, (ast.ListComp, ast.DictComp, ast.Lambda)):
            return []
        found = [node] if isinstance(node, ast.Name) and isinstance(node.ctx, ast.Store) else []
        return found + [name for inner in ast.iter_child_nodes(node) for name in self.own_names(inner)]

    def test_raises(self):
        for _, _, tree in self.each():
            for node in ast.walk(tree):
                if isinstance(node, ast.Raise):
                    self.assertTrue(isinstance(node.exc, ast.Call) and node.cause is None)
                    self.assertEqual(node.exc.keywords, [])


if __name__ == "__main__":
    unittest.main()
