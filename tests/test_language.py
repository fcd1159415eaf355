"""What can be counted of the language that the package is written in."""

import ast
import builtins
import pathlib
import unittest

FOLDER = pathlib.Path(__file__).resolve().parent.parent / "slideinto"

BUILTINS = set(
    "len range enumerate zip min max sum abs sorted reversed int str bool bytes list tuple dict set frozenset "
    "isinstance ord repr any all divmod pow getattr hasattr setattr iter next map super property type "
    "Exception ValueError TypeError KeyError IndexError LookupError ZeroDivisionError ArithmeticError "
    "OverflowError RuntimeError NotImplementedError AttributeError StopIteration NotImplemented".split()
)

LIBRARY = {
    "heapq": "heappush heappop heapify heapreplace heappushpop".split(),
    "math": "gcd lcm isqrt comb perm factorial".split(),
    "itertools": "product combinations permutations chain accumulate pairwise islice zip_longest".split(),
    "collections": "defaultdict deque".split(),
}

AT_THE_TOP = (ast.ImportFrom, ast.FunctionDef, ast.ClassDef, ast.Assign)

PLACES = (ast.Name, ast.Attribute)

NEVER = (ast.Import, ast.AsyncFunctionDef, ast.Await, ast.AsyncFor, ast.AsyncWith, ast.Div)


class LanguageTest(unittest.TestCase):
    def files(self):
        for path in sorted(FOLDER.glob("*.py")):
            yield path.name, path.read_text(encoding="utf-8")

    def trees(self):
        for name, text in self.files():
            yield name, ast.parse(text)

    def test_files(self):
        names = [name for name, _ in self.files()]
        self.assertIn("__init__.py", names)
        others = [path.name for path in FOLDER.iterdir() if path.suffix != ".py" and path.name != "__pycache__"]
        self.assertEqual(others, [])

    def test_sizes_and_characters(self):
        for name, text in self.files():
            lines = text.split("\n")
            self.assertLess(len(lines), 400, name)
            self.assertLessEqual(max(len(line) for line in lines), 120, name)
            self.assertTrue(all(sign == "\n" or " " <= sign <= "~" for sign in text), name)
            self.assertNotIn("_wall", text)

    def test_functions_are_small(self):
        for name, tree in self.trees():
            for node in ast.walk(tree):
                if isinstance(node, ast.FunctionDef):
                    self.assertLessEqual(node.end_lineno - node.lineno + 1, 40, (name, node.name))

    def test_module_level(self):
        for name, tree in self.trees():
            bound = []
            for node in tree.body:
                if isinstance(node, ast.Expr):
                    self.assertIsInstance(node.value, ast.Constant, name)
                else:
                    self.assertIsInstance(node, AT_THE_TOP, name)
                    bound += self.bound_by(node)
            self.assertEqual(len(bound), len(set(bound)), name)

    def bound_by(self, node):
        if isinstance(node, ast.ImportFrom):
            return [alias.name for alias in node.names]
        if isinstance(node, ast.Assign):
            return [target.id for target in node.targets]
        return [node.name]

    def test_imports_name_the_file_that_defines(self):
        defined = {f"slideinto.{name[:-3]}": self.defined_in(tree) for name, tree in self.trees()}
        for name, tree in self.trees():
            for node in ast.walk(tree):
                if isinstance(node, ast.ImportFrom):
                    self.assertEqual(node.level, 0, name)
                    told = LIBRARY.get(node.module) or defined[node.module]
                    for alias in node.names:
                        self.assertIn(alias.name, told, name)
                        self.assertIsNone(alias.asname, name)

    def defined_in(self, tree):
        told = []
        for node in tree.body:
            if not isinstance(node, (ast.ImportFrom, ast.Expr)):
                told += self.bound_by(node)
        return told

    def test_statements_and_builtins(self):
        for name, tree in self.trees():
            for node in ast.walk(tree):
                self.assertNotIsInstance(node, NEVER, name)
                if isinstance(node, ast.Constant):
                    self.assertNotIsInstance(node.value, (float, complex), name)
                # Examples that are run in the same process leave a builtin of the name _.
                if isinstance(node, ast.Name) and node.id != "_" and hasattr(builtins, node.id):
                    self.assertIn(node.id, BUILTINS, name)
                    self.assertIsInstance(node.ctx, ast.Load, name)

    def test_no_local_name_is_that_of_an_import_or_a_class(self):
        for name, tree in self.trees():
            taken = []
            for node in tree.body:
                if isinstance(node, (ast.ImportFrom, ast.ClassDef)):
                    taken += self.bound_by(node)
            for node in ast.walk(tree):
                if isinstance(node, ast.arg):
                    self.assertNotIn(node.arg, taken, name)
                if isinstance(node, ast.Name) and isinstance(node.ctx, ast.Store):
                    self.assertNotIn(node.id, taken, name)

    def test_no_loop_changes_what_it_goes_over(self):
        for name, tree in self.trees():
            for node in ast.walk(tree):
                if isinstance(node, ast.For):
                    gone_over = {ast.unparse(part) for part in ast.walk(node.iter) if isinstance(part, PLACES)}
                    changed = [ast.unparse(place) for row in node.body for place in self.changed_in(row)]
                    self.assertEqual([place for place in changed if place in gone_over], [], (name, node.lineno))

    def changed_in(self, tree):
        for node in ast.walk(tree):
            if isinstance(node, ast.Call) and isinstance(node.func, ast.Attribute):
                if node.func.attr in ("append", "extend", "pop", "clear", "insert", "remove", "setdefault", "update"):
                    yield node.func.value
            if isinstance(node, ast.Subscript) and not isinstance(node.ctx, ast.Load):
                yield node.value

    def test_no_two_files_import_from_each_other(self):
        imports = {}
        for name, tree in self.trees():
            told = [node.module for node in ast.walk(tree) if isinstance(node, ast.ImportFrom)]
            imports[f"slideinto.{name[:-3]}"] = [module for module in told if module.startswith("slideinto.")]
        left = dict(imports)
        while left:
            ready = [module for module in left if not any(other in left for other in left[module])]
            self.assertNotEqual(ready, [], left)
            left = {module: left[module] for module in left if module not in ready}
