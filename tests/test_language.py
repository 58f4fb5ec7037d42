"""The package keeps to what its subset of Python allows, as far as a quick look tells."""

import ast
import builtins
import pathlib
import unittest

FOLDER = pathlib.Path(__file__).resolve().parent.parent / "blindkeys"
ALLOWED = set(
    "len range enumerate zip min max sum abs sorted reversed int str bool list tuple dict set "
    "isinstance ord repr any all divmod pow map iter next type super ValueError TypeError KeyError "
    "IndexError LookupError ZeroDivisionError StopIteration NotImplemented property".split()
)
LIBRARY = {
    "heapq": "heappush heappop heapify heapreplace heappushpop",
    "math": "gcd lcm isqrt comb perm factorial",
    "itertools": "product combinations permutations chain accumulate pairwise islice zip_longest",
    "collections": "defaultdict deque",
}
NOT_NAMES = set(
    "mro elements open input law version_info with_traceback add_note register typing "
    "typing_extensions enum Enum IntEnum StrEnum Flag IntFlag Generic Protocol ABC ABCMeta namedtuple "
    "NamedTuple TypedDict TYPE_CHECKING abstractmethod dataclass overload contextmanager attrgetter "
    "builtins gc importlib methodcaller os sys".split()
)
NOT_USED = (
    ast.Global, ast.AsyncFunctionDef, ast.Await, ast.Div, ast.MatMult, ast.Import,
)


class Language(unittest.TestCase):
    def setUp(self):
        self.texts = {path.name: path.read_bytes().decode("ascii") for path in FOLDER.rglob("*.py")}
        self.trees = {name: ast.parse(text) for name, text in self.texts.items()}

    def nodes(self):
        return [(name, node) for name, tree in self.trees.items() for node in ast.walk(tree)]

    def test_the_folder_holds_python_files_alone(self):
        for path in FOLDER.rglob("*"):
            if "__pycache__" not in path.parts:
                self.assertEqual(path.suffix, ".py", path)
        self.assertIn("__init__.py", self.texts)

    def test_files_lines_and_signs(self):
        for name, text in self.texts.items():
            self.assertLess(len(text.splitlines()), 400, name)
            self.assertLessEqual(max(map(len, text.splitlines()), default=0), 120, name)
            self.assertTrue(all(sign == "\n" or " " <= sign <= "~" for sign in text), name)

    def test_functions_are_small(self):
        for name, node in self.nodes():
            if isinstance(node, ast.FunctionDef):
                self.assertLessEqual(node.end_lineno - node.lineno + 1, 40, (name, node.name))

    def test_imports(self):
        for name, node in self.nodes():
            if isinstance(node, ast.ImportFrom):
                self.assertEqual(node.level, 0, name)
                told = [part.name for part in node.names]
                self.assertFalse(any(part.asname or part.name == "*" for part in node.names), name)
                if node.module in LIBRARY:
                    self.assertLessEqual(set(told), set(LIBRARY[node.module].split()), name)
                else:
                    folder, _, file = node.module.partition(".")
                    self.assertEqual(folder, "blindkeys", name)
                    self.assertLessEqual(set(told), self.defined(file + ".py"), name)

    def defined(self, name):
        body = self.trees[name].body
        named = [node.name for node in body if isinstance(node, (ast.FunctionDef, ast.ClassDef))]
        given = [node.targets[0].id for node in body if isinstance(node, ast.Assign)]
        return {*named, *given}

    def test_nothing_but_what_is_allowed_stands_at_the_top(self):
        allowed = (ast.ImportFrom, ast.FunctionDef, ast.ClassDef, ast.Assign)
        for name, tree in self.trees.items():
            for at, node in enumerate(tree.body):
                docstring = at == 0 and isinstance(node, ast.Expr) and isinstance(node.value, ast.Constant)
                self.assertTrue(docstring or isinstance(node, allowed), (name, node.lineno))

    def test_names_that_are_not_used(self):
        for name, node in self.nodes():
            for field in ("id", "name", "attr", "arg", "module"):
                self.assertNotIn(getattr(node, field, None), NOT_NAMES, (name, getattr(node, "lineno", 0)))

    def test_exponents_are_written_out(self):
        for name, node in self.nodes():
            if isinstance(node, ast.BinOp) and isinstance(node.op, ast.Pow):
                self.assertIsInstance(node.right, ast.Constant, (name, node.lineno))
                self.assertIn(node.right.value, range(65), (name, node.lineno))

    def test_no_method_has_the_name_of_an_attribute(self):
        methods, attributes = set(), set()
        for _, node in self.nodes():
            if isinstance(node, ast.ClassDef):
                methods |= {part.name for part in node.body if isinstance(part, ast.FunctionDef)}
            if isinstance(node, ast.Attribute) and isinstance(node.ctx, ast.Store):
                attributes.add(node.attr)
        self.assertEqual(methods & attributes, set())

    def test_no_name_means_two_things(self):
        for name, tree in self.trees.items():
            taken = {part.name for node in tree.body if isinstance(node, ast.ImportFrom) for part in node.names}
            taken |= {node.name for node in tree.body if isinstance(node, ast.ClassDef)}
            for node in ast.walk(tree):
                if isinstance(node, ast.arg):
                    self.assertNotIn(node.arg, taken, (name, node.lineno))
                if isinstance(node, ast.Name) and isinstance(node.ctx, ast.Store):
                    self.assertNotIn(node.id, taken, (name, node.lineno))

    def test_builtins_and_statements(self):
        known = set(dir(builtins))
        for name, node in self.nodes():
            self.assertNotIsInstance(node, NOT_USED, name)
            if isinstance(node, ast.Name) and node.id in known:
                self.assertIn(node.id, ALLOWED, (name, node.lineno))
                self.assertIsInstance(node.ctx, ast.Load, (name, node.lineno))
            if isinstance(node, (ast.FunctionDef, ast.ClassDef)) and not node.name.startswith("__"):
                self.assertNotIn(node.name, known, (name, node.lineno))
            if isinstance(node, ast.arg):
                self.assertNotIn(node.arg, known, (name, node.lineno))
            if isinstance(node, ast.Constant):
                self.assertNotIsInstance(node.value, (float, complex), (name, node.lineno))


if __name__ == "__main__":
    unittest.main()
