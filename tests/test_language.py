"""The files of the package keep to the subset of Python that LANGUAGE.md tells, as far as a file shows it plainly."""

import ast
import builtins
import unittest
import warnings
from pathlib import Path

PACKAGE = Path(__file__).resolve().parent.parent / "turntell"
FILES = sorted(PACKAGE.rglob("*.py"))
BUILTINS = set(
    "len range enumerate zip min max sum abs sorted reversed int str bool list tuple dict set isinstance ord repr any all"
    " divmod pow getattr hasattr setattr super type map iter next Exception ValueError TypeError KeyError IndexError"
    " LookupError ZeroDivisionError ArithmeticError OverflowError RuntimeError NotImplementedError AttributeError"
    " StopIteration NotImplemented".split()
)
LIBRARY = {
    "heapq": {"heappush", "heappop", "heapify", "heapreplace", "heappushpop"},
    "math": {"gcd", "lcm", "isqrt", "comb", "perm", "factorial"},
    "itertools": {"product", "combinations", "permutations", "chain", "accumulate", "pairwise", "islice", "zip_longest"},
    "collections": {"defaultdict", "deque"},
}
METHODS = set(
    "append clear copy count endswith extend find get index insert isalnum isalpha isdigit islower isspace isupper items"
    " join keys ljust lower lstrip partition pop remove replace reverse rfind rjust rpartition rsplit rstrip setdefault"
    " split splitlines startswith strip update upper values zfill bit_length".split()
)
DOUBLE = {"__init__", "__eq__", "__len__"}
BARRED = (ast.Global, ast.AsyncFunctionDef, ast.Await, ast.Div, ast.Import, ast.Starred, ast.GeneratorExp)
BARRED_NAMES = {"register", "mro", "elements", "open", "input", "law", "version_info", "with_traceback", "add_note"}


def trees():
    """Each file of the package with its tree."""
    return [(path, ast.parse(path.read_text())) for path in FILES]


def functions(tree):
    """All functions and methods of a tree."""
    return [node for node in ast.walk(tree) if isinstance(node, ast.FunctionDef)]


def docstrings(tree):
    """The nodes of a tree that are docstrings."""
    owners = [tree] + [node for node in ast.walk(tree) if isinstance(node, (ast.FunctionDef, ast.ClassDef))]
    return [owner.body[0].value for owner in owners if ast.get_docstring(owner) is not None]


class Files(unittest.TestCase):
    def test_nothing_but_plain_files(self):
        found = [path for path in PACKAGE.rglob("*") if "__pycache__" not in path.parts]
        self.assertEqual(sorted(found), FILES)
        self.assertIn(PACKAGE / "__init__.py", FILES)

    def test_sizes_and_signs(self):
        for path, tree in trees():
            text = path.read_text()
            with self.subTest(path.name):
                self.assertLessEqual(text.count("\n"), 399)
                self.assertTrue(text.endswith("\n"))
                self.assertEqual([line for line in text.split("\n") if len(line) > 120 or line != line.rstrip()], [])
                self.assertEqual([sign for sign in text if sign != "\n" and not " " <= sign <= "~"], [])
                long = [deed.name for deed in functions(tree) if deed.end_lineno - deed.lineno >= 40]
                self.assertEqual(long, [])


    def test_no_warnings(self):
        for path in FILES:
            with warnings.catch_warnings():
                warnings.simplefilter("error")
                compile(path.read_text(), path.name, "exec")


class Words(unittest.TestCase):
    def test_imports(self):
        own = {"turntell." + path.stem: path for path in FILES}
        for path, tree in trees():
            for node in ast.walk(tree):
                if isinstance(node, ast.ImportFrom):
                    with self.subTest(path=path.name, names=node.module):
                        self.assertIn(node, tree.body)
                        self.assertEqual(node.level, 0)
                        names = {alias.name for alias in node.names}
                        defined = LIBRARY.get(node.module) or {
                            part.name if hasattr(part, "name") else part.targets[0].id
                            for part in ast.parse(own[node.module].read_text()).body
                            if isinstance(part, (ast.FunctionDef, ast.ClassDef, ast.Assign))
                        }
                        self.assertLessEqual(names, defined)

    def test_no_circles_of_imports(self):
        imports = {
            "turntell." + path.stem: {node.module for node in tree.body if isinstance(node, ast.ImportFrom)}
            for path, tree in trees()
        }
        left = dict(imports)
        while left:
            free = [name for name, wanted in left.items() if not wanted & set(left)]
            self.assertNotEqual(free, [], sorted(left))
            left = {name: wanted for name, wanted in left.items() if name not in free}

    def test_methods(self):
        own = {deed.name for _, tree in trees() for part in tree.body if isinstance(part, ast.ClassDef)
               for deed in functions(part)}
        self.assertEqual({name for name in own if name.startswith("__")}, DOUBLE)
        stored = set()
        for path, tree in trees():
            for node in ast.walk(tree):
                if isinstance(node, ast.Attribute) and isinstance(node.ctx, ast.Store):
                    stored.add(node.attr)
                if isinstance(node, ast.Call) and isinstance(node.func, ast.Attribute):
                    self.assertIn(node.func.attr, METHODS | own, f"{path.name}:{node.lineno}")
        self.assertEqual(stored & (own | METHODS), set())

    def test_barred_statements(self):
        for path, tree in trees():
            for node in ast.walk(tree):
                self.assertNotIsInstance(node, BARRED, f"{path.name}:{getattr(node, 'lineno', 0)}")

    def test_builtins_and_names(self):
        barred = (set(dir(builtins)) - BUILTINS) | BARRED_NAMES
        for path, tree in trees():
            names = {node.id for node in ast.walk(tree) if isinstance(node, ast.Name)}
            self.assertEqual(names & barred, set(), path.name)
            bound = {node.id for node in ast.walk(tree) if isinstance(node, ast.Name) and isinstance(node.ctx, ast.Store)}
            bound |= {node.arg for node in ast.walk(tree) if isinstance(node, ast.arg)}
            bound |= {deed.name for deed in functions(tree)}
            self.assertEqual(bound & (set(dir(builtins)) - {"__init__"}), set(), path.name)
            imported = {alias.name for node in tree.body if isinstance(node, ast.ImportFrom) for alias in node.names}
            self.assertEqual(bound & imported, set(), path.name)

    def test_strings_and_numbers(self):
        for path, tree in trees():
            docs = docstrings(tree)
            for node in ast.walk(tree):
                if isinstance(node, ast.Constant):
                    self.assertNotIsInstance(node.value, (float, complex), path.name)
                    if isinstance(node.value, str) and node not in docs:
                        self.assertNotIn("%", node.value, path.name)
                        self.assertNotIn("type", node.value.split(), path.name)

    def test_module_level(self):
        for path, tree in trees():
            for part in tree.body[1:]:
                with self.subTest(path=path.name, line=part.lineno):
                    self.assertIsInstance(part, (ast.ImportFrom, ast.FunctionDef, ast.ClassDef, ast.Assign))
            self.assertIsNotNone(ast.get_docstring(tree), path.name)


if __name__ == "__main__":
    unittest.main()
