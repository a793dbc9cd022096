"""Rules of the language that the files of the package keep to, as far as a short look can tell."""

import ast
import builtins
import pathlib
import re
import unittest

PACKAGE = pathlib.Path(__file__).parent.parent / "neverhit"
LIBRARY = {"itertools": {"combinations"}, "math": {"gcd", "isqrt"}}
BUILTINS = set(
    "len range enumerate zip min max sum abs sorted reversed int str bool list tuple dict set isinstance ord repr any"
    " all divmod ValueError super staticmethod".split())
METHODS = set(
    "append count extend get index isalnum isascii isdigit items join lower pop split startswith".split())
DUNDERS = {"__init__", "__eq__", "__str__", "__bool__"}
BARRED_NAMES = set(
    "register mro elements open input law version_info with_traceback add_note attrgetter breakpoint builtins compile"
    " copyright credits delattr dir eval exec exit gc getattr globals hasattr help id importlib license locals"
    " methodcaller os quit setattr type vars sys".split())
BARRED_WORDS = re.compile(
    r"\b(type|typing|enum|Enum|Flag|Generic|Protocol|ABC|namedtuple|abstractmethod|_wall\w*)\b|dataclass|overload"
    r"|contextmanager|_wall")
STATEMENTS = (
    ast.Assign, ast.AugAssign, ast.If, ast.While, ast.For, ast.Return, ast.Break, ast.Continue, ast.Raise, ast.Expr,
    ast.Try, ast.FunctionDef, ast.ClassDef, ast.ImportFrom, ast.Pass, ast.Delete,
)


def files():
    """The files of the package, their texts and their trees."""
    return [(path, path.read_text(), ast.parse(path.read_text())) for path in sorted(PACKAGE.rglob("*.py"))]


def imports_of(tree):
    """The statements that import."""
    return [node for node in ast.walk(tree) if isinstance(node, (ast.Import, ast.ImportFrom))]


class Language(unittest.TestCase):

    def every(self, kind):
        """Each node of a kind in all files, in a test of its own."""
        for path, _, tree in files():
            for node in ast.walk(tree):
                if isinstance(node, kind):
                    with self.subTest(file=path.name, line=getattr(node, "lineno", 0)):
                        yield node

    def test_files(self):
        for path in PACKAGE.rglob("*"):
            if "__pycache__" not in path.parts:
                self.assertEqual(".py", path.suffix)
                self.assertRegex(path.stem, r"^[a-z_]+$")
        self.assertLessEqual(len(files()), 100)

    def test_sizes_and_characters(self):
        for path, text, tree in files():
            with self.subTest(file=path.name):
                self.assertRegex(text, r"^[ -~\n]*$")
                self.assertLessEqual(len(text.splitlines()), 399)
                self.assertLessEqual(max(len(line) for line in text.splitlines()), 120)
                for node in ast.walk(tree):
                    if isinstance(node, ast.FunctionDef):
                        self.assertLessEqual(node.end_lineno - node.lineno + 1, 40, node.name)

    def test_imports(self):
        graph = {}
        for path, _, tree in files():
            body = [node for node in tree.body if not isinstance(node, ast.Expr)]
            for node in imports_of(tree):
                with self.subTest(file=path.name, line=node.lineno):
                    self.assertIsInstance(node, ast.ImportFrom)
                    self.assertEqual(0, node.level)
                    self.assertIn(node, body[:len(imports_of(tree))])
                    self.assertTrue(all(alias.asname is None and alias.name != "*" for alias in node.names))
                    if node.module in LIBRARY:
                        self.assertLessEqual({alias.name for alias in node.names}, LIBRARY[node.module])
                    else:
                        self.assertTrue(node.module.startswith("neverhit."))
                        graph.setdefault(path.stem, []).append(node.module.split(".")[1])
        done = []
        while len(done) < len(graph):
            ready = [name for name in graph if name not in done and all(n in done or n not in graph for n in graph[name])]
            self.assertTrue(ready, "files import from each other")
            done.extend(ready)

    def test_statements(self):
        for node in self.every(ast.stmt):
            self.assertIsInstance(node, STATEMENTS)
        for path, _, tree in files():
            for node in tree.body:
                self.assertIsInstance(node, (ast.Expr, ast.ImportFrom, ast.FunctionDef, ast.ClassDef, ast.Assign))

    def test_expressions(self):
        kinds = (ast.GeneratorExp, ast.Yield, ast.YieldFrom, ast.Await, ast.NamedExpr, ast.Global, ast.Nonlocal, ast.Div)
        for _ in self.every(kinds):
            self.fail("it is not used")
        for node in self.every(ast.Constant):
            self.assertIsInstance(node.value, (int, str, type(None)))
            if isinstance(node.value, str):
                self.assertNotIn("%", node.value)
        for node in self.every(ast.Compare):
            for sign, other in zip(node.ops, node.comparators):
                if isinstance(sign, (ast.Is, ast.IsNot)):
                    self.assertIsNone(other.value)

    def test_names(self):
        own = {node.name for _, _, tree in files() for node in ast.walk(tree) if isinstance(node, ast.FunctionDef)}
        for path, text, tree in files():
            words = re.sub(r'"""(.|\n)*?"""|#.*', "", text)
            self.assertIsNone(BARRED_WORDS.search(words), path.name)
            self.assertNotIn("_wall", text)
            imported = {alias.name for node in imports_of(tree) for alias in node.names}
            classes = {node.name for node in tree.body if isinstance(node, ast.ClassDef)}
            for node in ast.walk(tree):
                with self.subTest(file=path.name, line=getattr(node, "lineno", 0)):
                    names = []
                    if isinstance(node, ast.arg):
                        names = [node.arg]
                    elif isinstance(node, ast.Name) and isinstance(node.ctx, ast.Store):
                        names = [node.id]
                    elif isinstance(node, (ast.FunctionDef, ast.ClassDef)):
                        names = [node.name]
                    for name in names:
                        self.assertNotIn(name, BARRED_NAMES)
                        self.assertNotIn(name, dir(builtins))
                        self.assertNotIn(name, imported)
                        self.assertTrue(name not in classes or isinstance(node, ast.ClassDef))
                        self.assertTrue(not name.startswith("__") or name in DUNDERS)
                    if isinstance(node, ast.Name) and node.id in dir(builtins):
                        self.assertIn(node.id, BUILTINS)
                    if isinstance(node, ast.Attribute):
                        self.assertNotIn(node.attr, {"register", "mro", "elements", "open", "input", "law", "args"})
                    if isinstance(node, ast.Call) and isinstance(node.func, ast.Attribute):
                        self.assertIn(node.func.attr, METHODS | DUNDERS | own)

    def test_decorators_and_defaults(self):
        for node in self.every(ast.FunctionDef):
            self.assertLessEqual({decorator.id for decorator in node.decorator_list}, {"staticmethod"})
            for default in node.args.defaults:
                self.assertIsInstance(default, (ast.Constant, ast.Tuple))
            self.assertIsNone(node.returns)
            self.assertTrue(all(arg.annotation is None for arg in node.args.args))

    def test_handlers_name_own_errors(self):
        for node in self.every(ast.ExceptHandler):
            named = node.type.elts if isinstance(node.type, ast.Tuple) else [node.type]
            for error in named:
                self.assertNotIn(error.id, dir(builtins))

    def test_stars_stand_before_names_alone(self):
        for node in self.every(ast.Call):
            for argument in node.args:
                if isinstance(argument, ast.Starred):
                    self.assertIsInstance(argument.value, (ast.Name, ast.Attribute))

    def test_of_caught_errors_only_fields_are_read(self):
        for node in self.every(ast.FunctionDef):
            caught = [handler.name for handler in ast.walk(node) if isinstance(handler, ast.ExceptHandler) and handler.name]
            self.assertEqual(len(set(caught)), len(caught))
            owners = [part.value for part in ast.walk(node) if isinstance(part, ast.Attribute)]
            for part in ast.walk(node):
                if isinstance(part, ast.Name) and part.id in caught:
                    self.assertIn(part, owners)

    def test_sets_are_measured_or_sorted_on_the_spot(self):
        for path, _, tree in files():
            allowed = [
                argument for node in ast.walk(tree)
                if isinstance(node, ast.Call) and isinstance(node.func, ast.Name) and node.func.id in ("len", "sorted")
                for argument in node.args
            ]
            for node in ast.walk(tree):
                is_call = isinstance(node, ast.Call) and isinstance(node.func, ast.Name) and node.func.id == "set"
                if is_call or isinstance(node, (ast.Set, ast.SetComp)):
                    self.assertIn(node, allowed, path.name)


if __name__ == "__main__":
    unittest.main()
