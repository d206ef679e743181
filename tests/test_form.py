"""The form of the package's files: the rules of the language that a short program can see."""

import ast
import builtins
import io
import os
import tokenize
import unittest

TOP = os.path.dirname(os.path.dirname(os.path.abspath(__file__)))
PACKAGE = os.path.join(TOP, "legsteps")

BUILTINS = """
    len range enumerate zip min max sum abs sorted reversed int str bool bytes list tuple dict set frozenset isinstance ord
    repr any all divmod pow getattr hasattr setattr iter next map type super property staticmethod classmethod
    Exception ValueError TypeError KeyError IndexError LookupError ZeroDivisionError ArithmeticError OverflowError
    RuntimeError NotImplementedError AttributeError StopIteration NotImplemented
""".split()

LIBRARY = {
    "heapq": "heappush heappop heapify heapreplace heappushpop".split(),
    "math": "gcd lcm isqrt comb perm factorial".split(),
    "itertools": "product combinations permutations chain accumulate pairwise islice zip_longest".split(),
    "collections": "defaultdict deque".split(),
}

BARRED = """
    register mro elements law version_info with_traceback add_note typing typing_extensions enum Enum IntEnum StrEnum Flag
    IntFlag Generic Protocol ABC ABCMeta namedtuple NamedTuple TypedDict TYPE_CHECKING abstractmethod dataclass overload
    contextmanager globals locals vars eval exec compile open input print chr float complex bytearray memoryview
""".split()

BARRED_NODES = (ast.Div, ast.MatMult, ast.AsyncFunctionDef, ast.AsyncFor, ast.AsyncWith, ast.Await, ast.Import)


def package_files():
    found = []
    for folder, _, names in os.walk(PACKAGE):
        if os.path.basename(folder) != "__pycache__":
            found += [os.path.join(folder, name) for name in sorted(names)]
    return found


def text_of(path):
    with open(path, encoding="utf-8", newline="") as file:
        return file.read()


def tree_of(path):
    return ast.parse(text_of(path))


def trees():
    return [(path, tree_of(path)) for path in package_files()]


def path_of(module):
    return os.path.join(TOP, *module.split(".")) + ".py"


def top_names(tree):
    """The names that a module binds, each as often as it does so, those of imports included."""
    found = []
    for row in tree.body:
        if isinstance(row, (ast.FunctionDef, ast.ClassDef)):
            found.append(row.name)
        elif isinstance(row, ast.Assign):
            found += [target.id for target in row.targets]
        elif isinstance(row, ast.ImportFrom):
            found += [each.asname or each.name for each in row.names]
    return found


def variables(tree):
    """The names of parameters, variables and functions anywhere, but for methods."""
    methods = [row for each in ast.walk(tree) if isinstance(each, ast.ClassDef) for row in each.body]
    for each in ast.walk(tree):
        if isinstance(each, ast.Name) and not isinstance(each.ctx, ast.Load):
            yield each.id
        elif isinstance(each, ast.arg):
            yield each.arg
        elif isinstance(each, ast.FunctionDef) and each not in methods:
            yield each.name


def classes(tree):
    return [row.name for row in tree.body if isinstance(row, ast.ClassDef)]


def imports(tree):
    """The names that a module takes from others."""
    return [each.asname or each.name for row in tree.body if isinstance(row, ast.ImportFrom) for each in row.names]


def strings(tree):
    """The texts of a module, but for docstrings and other texts that stand alone."""
    alone = [row.value for row in ast.walk(tree) if isinstance(row, ast.Expr)]
    return [each.value for each in ast.walk(tree)
            if isinstance(each, ast.Constant) and isinstance(each.value, str) and each not in alone]


class Form(unittest.TestCase):

    def test_files(self):
        self.assertIn(os.path.join(PACKAGE, "__init__.py"), package_files())
        for path in package_files():
            name = os.path.basename(path)
            self.assertTrue(name.endswith(".py") and name == name.lower(), path)
            self.assertNotIn(name[:-3], dir(builtins))

    def test_characters_and_lengths(self):
        for path in package_files():
            rows = text_of(path).split("\n")
            self.assertLessEqual(len(rows), 399, path)
            for row in rows:
                self.assertLessEqual(len(row), 120, (path, row))
                self.assertTrue(all(" " <= sign <= "~" for sign in row), (path, row))

    def test_functions_have_40_lines_at_most(self):
        for path, tree in trees():
            for each in ast.walk(tree):
                if isinstance(each, ast.FunctionDef):
                    self.assertLessEqual(each.end_lineno - each.lineno + 1, 40, each.name)

    def test_no_barred_part_and_no_float(self):
        for path, tree in trees():
            for each in ast.walk(tree):
                self.assertNotIsInstance(each, BARRED_NODES, path)
                if isinstance(each, ast.Constant):
                    self.assertNotIsInstance(each.value, (float, complex), path)
                if isinstance(each, ast.ExceptHandler):
                    self.assertIsNotNone(each.type, path)

    def test_stars_in_calls_stand_before_names(self):
        for path, tree in trees():
            for each in ast.walk(tree):
                if isinstance(each, ast.Call):
                    for part in each.args:
                        if isinstance(part, ast.Starred):
                            self.assertIsInstance(part.value, (ast.Name, ast.Attribute, ast.List, ast.Tuple), path)

    def test_powers_are_literals(self):
        for path, tree in trees():
            for each in ast.walk(tree):
                if isinstance(each, ast.BinOp) and isinstance(each.op, ast.Pow):
                    self.assertIsInstance(each.right, ast.Constant, path)

    def test_no_percent_sign_in_a_string(self):
        for path, tree in trees():
            for text in strings(tree):
                self.assertNotIn("%", text, path)

    def test_no_barred_word(self):
        for path in package_files():
            for token in tokenize.generate_tokens(io.StringIO(text_of(path)).readline):
                if token.type == tokenize.NAME:
                    self.assertNotIn(token.string, BARRED, path)

    def test_builtins(self):
        for path, tree in trees():
            for name in list(variables(tree)) + classes(tree):
                self.assertNotIn(name, dir(builtins), path)
            for each in ast.walk(tree):
                if isinstance(each, ast.Name) and each.id in dir(builtins):
                    self.assertIn(each.id, BUILTINS, path)

    def test_module_level(self):
        kinds = (ast.ImportFrom, ast.FunctionDef, ast.ClassDef, ast.Assign)
        for path, tree in trees():
            names = top_names(tree)
            self.assertEqual(len(names), len(set(names)), path)
            rows = tree.body if ast.get_docstring(tree) is None else tree.body[1:]
            for row in rows:
                self.assertIsInstance(row, kinds, path)

    def test_no_variable_has_the_name_of_an_import_or_a_class(self):
        for path, tree in trees():
            for name in variables(tree):
                self.assertNotIn(name, imports(tree) + classes(tree), path)

    def test_imports_name_the_file_that_defines_the_name(self):
        for path, tree in trees():
            rows = [each for each in ast.walk(tree) if isinstance(each, ast.ImportFrom)]
            for row in rows:
                self.assertEqual(row.level, 0, path)
                self.assertIn(row, tree.body, path)
                if row.module.split(".")[0] == "legsteps":
                    source = tree_of(path_of(row.module))
                    given = [name for name in top_names(source) if name not in imports(source)]
                else:
                    given = LIBRARY[row.module]
                for each in row.names:
                    self.assertIn(each.name, given, path)

    def test_no_two_files_import_from_each_other(self):
        needs = {}
        for path, tree in trees():
            needs[path] = [path_of(row.module) for row in tree.body
                           if isinstance(row, ast.ImportFrom) and row.module.startswith("legsteps")]
        done = []
        while len(done) < len(needs):
            ready = [path for path in needs if path not in done and all(each in done for each in needs[path])]
            self.assertTrue(ready, "files that import from each other")
            done += ready


if __name__ == "__main__":
    unittest.main()
