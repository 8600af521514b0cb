"""Rules of the language that the package keeps to, as far as its text alone shows them.

Among them is that nothing in it can reach a clock, chance or files: it imports and calls nothing that could.
"""

import ast
import pathlib
import re
import unittest
import warnings

PACKAGE = pathlib.Path(__file__).resolve().parent.parent / "soothcheck"
LIBRARY = {
    "heapq": {"heappush", "heappop", "heapify", "heapreplace", "heappushpop"},
    "math": {"gcd", "lcm", "isqrt", "comb", "perm", "factorial"},
    "itertools": {"product", "combinations", "permutations", "chain", "accumulate", "pairwise", "islice",
                  "zip_longest"},
    "collections": {"defaultdict"},
    "__future__": {"annotations"},
}
BUILTINS = set("""len range enumerate zip min max sum abs sorted reversed int str bool list tuple dict set isinstance
    ord repr any all divmod map iter next super Exception ValueError TypeError KeyError IndexError LookupError
    ZeroDivisionError ArithmeticError OverflowError RuntimeError NotImplementedError StopIteration""".split())
METHODS = set("""append clear copy count endswith extend find get index insert isalnum isalpha isdigit islower isspace
    isupper items join keys ljust lower lstrip partition pop remove replace reverse rfind rjust rpartition rsplit
    rstrip setdefault split splitlines startswith strip update upper values zfill bit_length add discard
    removeprefix removesuffix isascii sort __init__""".split())
# Names of params and variables that are called: they hold functions of the package.
CALLED = {"look", "may_lead", "need", "read_one", "show", "work"}
BARRED = (ast.Global, ast.AsyncFunctionDef, ast.Await, ast.Div, ast.Import)
BARRED_NAMES = set("""register mro elements open input law version_info attrgetter breakpoint builtins compile copyright
    credits delattr dir eval exec exit gc globals hasattr getattr setattr help id importlib license locals
    methodcaller os quit type vars sys print chr bytes frozenset object float hash round format filter
    _cold _tuplegetter _outside _record _written_out _member_names""".split())
BARRED_BEGINNINGS = ("_wall", "_pe_", "_dcw_", "_enum_", "_cm_", "_twin_re_", "_lay_", "_law_", "_stub_", "_sre")


def files():
    return sorted(PACKAGE.rglob("*.py"))


class Rules(unittest.TestCase):

    def trees(self):
        for path in files():
            yield path, ast.parse(path.read_text(encoding="ascii"))

    def test_the_folder_holds_its_files_alone(self):
        for path in PACKAGE.rglob("*"):
            if "__pycache__" not in path.parts and not path.is_dir():
                self.assertRegex(path.name, r"^[a-z_][a-z0-9_]*\.py$")
        self.assertIn(PACKAGE / "__init__.py", files())

    def test_rows_and_signs(self):
        for path in files():
            text = path.read_text(encoding="ascii")
            rows = text.split("\n")
            self.assertLessEqual(len(rows), 400, path)
            for at, row in enumerate(rows):
                self.assertLessEqual(len(row), 120, (path, at + 1))
                self.assertTrue(all(" " <= sign <= "~" for sign in row), (path, at + 1))
                self.assertIsNone(re.search("_wall|_WallAttr", row), (path, at + 1))

    def test_python_has_no_warning(self):
        for path in files():
            with warnings.catch_warnings():
                warnings.simplefilter("error")
                compile(path.read_text(encoding="ascii"), str(path), "exec")

    def test_functions_are_short_and_undecorated(self):
        for path, tree in self.trees():
            for node in ast.walk(tree):
                if isinstance(node, ast.FunctionDef):
                    self.assertLessEqual(node.end_lineno - node.lineno + 1, 40, (path, node.name))
                    self.assertEqual(node.decorator_list, [], (path, node.name))

    def test_imports(self):
        for path, tree in self.trees():
            for node in ast.walk(tree):
                if isinstance(node, ast.ImportFrom):
                    self.assertEqual(node.level, 0, path)
                    names = {alias.name for alias in node.names}
                    if node.module.split(".")[0] != "soothcheck":
                        self.assertLessEqual(names, LIBRARY.get(node.module, set()), (path, node.module))

    def test_statements_names_and_strings(self):
        for path, tree in self.trees():
            for node in ast.walk(tree):
                where = (path, getattr(node, "lineno", 0))
                self.assertNotIsInstance(node, BARRED, where)
                if isinstance(node, ast.Constant):
                    self.assertNotIsInstance(node.value, (float, complex), where)
                    if isinstance(node.value, str):
                        self.assertNotIn("%", node.value, where)
                for attribute in ("id", "name", "arg"):
                    name = getattr(node, attribute, None)
                    if isinstance(name, str):
                        self.assertNotIn(name, BARRED_NAMES, where)
                        self.assertFalse(name.startswith(BARRED_BEGINNINGS), where)

    def own_methods(self):
        """The methods that the package's classes define."""
        names = set()
        for _, tree in self.trees():
            for owner in ast.walk(tree):
                if isinstance(owner, ast.ClassDef):
                    names |= {node.name for node in owner.body if isinstance(node, ast.FunctionDef)}
        return names

    def test_calls(self):
        methods = METHODS | self.own_methods()
        for path, tree in self.trees():
            own = {node.name for node in tree.body if isinstance(node, (ast.FunctionDef, ast.ClassDef))}
            for node in tree.body:
                if isinstance(node, ast.ImportFrom):
                    own |= {alias.name for alias in node.names}
            for node in ast.walk(tree):
                if isinstance(node, ast.Call):
                    where = (path, node.lineno)
                    if isinstance(node.func, ast.Name):
                        self.assertIn(node.func.id, own | BUILTINS | CALLED, where)
                    else:
                        self.assertIsInstance(node.func, ast.Attribute, where)
                        self.assertIn(node.func.attr, methods, where)


if __name__ == "__main__":
    unittest.main()
