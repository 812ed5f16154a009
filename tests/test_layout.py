"""What ../shared/LANGUAGE.md says of the package's files, as far as a short test can see it."""

import ast
import builtins
import pathlib
import unittest

PACKAGE = pathlib.Path(__file__).resolve().parent.parent / "processturns"

LIBRARY = {
    "heapq": ["heappush", "heappop", "heapify", "heapreplace", "heappushpop"],
    "math": ["gcd", "lcm", "isqrt", "comb", "perm", "factorial"],
    "itertools": [
        "product", "combinations", "permutations", "chain", "accumulate", "pairwise", "islice", "zip_longest",
    ],
    "collections": ["defaultdict", "deque"],
}

BUILTINS = """
    len range enumerate zip min max sum abs sorted reversed int str bool bytes list tuple dict set isinstance ord repr
    any all divmod pow Exception ValueError TypeError KeyError IndexError LookupError ZeroDivisionError
    ArithmeticError OverflowError RuntimeError NotImplementedError AttributeError StopIteration NotImplemented
    iter next
""".split()

METHODS = """
    append clear copy count endswith extend find get index insert isalnum isalpha isdigit islower isspace isupper items
    join keys ljust lower lstrip partition pop remove replace reverse rfind rjust rpartition rsplit rstrip setdefault
    split splitlines startswith strip update upper values zfill bit_length add discard sort popleft appendleft rotate
""".split()

NO_NAMES = """
    register mro elements open input law version_info with_traceback add_note attrgetter breakpoint builtins compile
    copyright credits delattr dir eval exec exit gc globals help id importlib license locals methodcaller os quit vars
""".split()

NO_NODES = (
    ast.Div, ast.Import, ast.Global, ast.AsyncFunctionDef, ast.AsyncFor, ast.AsyncWith, ast.Await, ast.MatMult,
    ast.AnnAssign,
)


class LayoutTest(unittest.TestCase):
    def files(self):
        found = [path for path in PACKAGE.iterdir() if path.name != "__pycache__"]
        self.assertIn(PACKAGE / "__init__.py", found)
        return sorted(found)

    def trees(self):
        return [(path.name, ast.parse(path.read_text())) for path in self.files()]

    def test_only_python_files(self):
        for path in self.files():
            self.assertRegex(path.name, r"\A[a-z_][a-z0-9_]*\.py\Z")

    def test_lines(self):
        for path in self.files():
            text = path.read_bytes().decode("ascii")
            self.assertNotRegex(text, r"[^ -~\n]", path.name)
            lines = text.splitlines()
            self.assertLessEqual(len(lines), 399, path.name)
            self.assertLessEqual(max([len(line) for line in lines], default=0), 120, path.name)

    def test_functions_are_small(self):
        for name, tree in self.trees():
            for node in ast.walk(tree):
                if isinstance(node, ast.FunctionDef):
                    many = node.end_lineno - node.lineno + 1
                    self.assertLessEqual(many, 40, f"{name}: {node.name}")

    def test_all_has_a_docstring(self):
        for name, tree in self.trees():
            for node in ast.walk(tree):
                if isinstance(node, (ast.Module, ast.FunctionDef, ast.ClassDef)):
                    if getattr(node, "name", "") != "__init__":
                        self.assertTrue(ast.get_docstring(node), f"{name}: {getattr(node, 'name', '')}")

    def test_imports_name_the_file_that_defines_the_name(self):
        defined = {"processturns." + name[:-3]: self.bound(tree) for name, tree in self.trees()}
        for name, tree in self.trees():
            for node in ast.walk(tree):
                if isinstance(node, ast.ImportFrom):
                    self.assertEqual(node.level, 0, name)
                    allowed = defined.get(node.module) or LIBRARY[node.module]
                    for alias in node.names:
                        self.assertIn(alias.name, allowed, name)
                        self.assertIsNone(alias.asname, name)

    def bound(self, tree):
        """The names that a file binds itself, without its imports."""
        found = [node.name for node in tree.body if isinstance(node, (ast.FunctionDef, ast.ClassDef))]
        for node in tree.body:
            if isinstance(node, ast.Assign):
                found += [target.id for target in node.targets]
        self.assertEqual(len(found), len(set(found)))
        return found

    def test_no_two_files_import_from_each_other(self):
        wanted = {"processturns." + name[:-3]: {
            node.module for node in ast.walk(tree) if isinstance(node, ast.ImportFrom)
        } for name, tree in self.trees()}
        # Files that import nothing that is left are taken away, one after the other.
        while wanted:
            bare = [name for name, others in wanted.items() if not others & set(wanted)]
            self.assertNotEqual(bare, [], sorted(wanted))
            for name in bare:
                del wanted[name]

    def test_names(self):
        for name, tree in self.trees():
            imports = [node for node in ast.walk(tree) if isinstance(node, ast.ImportFrom)]
            imported = [alias.name for node in imports for alias in node.names]
            classes = [node.name for node in ast.walk(tree) if isinstance(node, ast.ClassDef)]
            for node in ast.walk(tree):
                stored = []
                if isinstance(node, ast.Name) and isinstance(node.ctx, ast.Store):
                    stored = [node.id]
                if isinstance(node, ast.arg):
                    stored = [node.arg]
                for one in stored:
                    self.assertNotIn(one, imported + classes + dir(builtins) + NO_NAMES, name)
                if isinstance(node, ast.Name) and isinstance(node.ctx, ast.Load):
                    self.assertNotEqual(node.id, "_", name)
                    if node.id in dir(builtins):
                        self.assertIn(node.id, BUILTINS, name)
                if isinstance(node, (ast.FunctionDef, ast.ClassDef)):
                    self.assertNotIn(node.name, dir(builtins) + NO_NAMES, name)

    def test_methods(self):
        own = [node.name for _, tree in self.trees() for node in ast.walk(tree) if isinstance(node, ast.FunctionDef)]
        for name, tree in self.trees():
            for node in ast.walk(tree):
                if isinstance(node, ast.Call) and isinstance(node.func, ast.Attribute):
                    self.assertIn(node.func.attr, METHODS + own, name)

    def test_statements_and_values(self):
        for name, tree in self.trees():
            docstrings = [node.value for node in ast.walk(tree) if isinstance(node, ast.Expr)]
            for node in ast.walk(tree):
                self.assertNotIsInstance(node, NO_NODES, name)
                if isinstance(node, (ast.FunctionDef, ast.ClassDef)):
                    self.assertEqual(node.decorator_list, [], name)
                if isinstance(node, ast.Constant):
                    self.assertNotIsInstance(node.value, (float, complex), name)
                    if isinstance(node.value, str) and node not in docstrings:
                        self.assertNotRegex(node.value, "%|type", name)
                if isinstance(node, ast.Compare):
                    for sign, other in zip(node.ops, node.comparators):
                        if isinstance(sign, (ast.Is, ast.IsNot)):
                            self.assertIn(ast.unparse(other), ["None", "True", "False"], name)


if __name__ == "__main__":
    unittest.main()
