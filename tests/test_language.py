"""What can be counted of the language that the package is written in."""

import ast
import builtins
import io
import pathlib
import re
import tokenize
import unittest

FOLDER = pathlib.Path(__file__).resolve().parent.parent / "slideinto"

BUILTINS = set(
    "len range enumerate zip min max sum abs sorted reversed int str bool bytes list tuple dict set frozenset "
    "isinstance ord repr any all divmod pow getattr hasattr setattr iter next map super property type "
    "Exception ValueError TypeError KeyError IndexError LookupError ZeroDivisionError ArithmeticError "
    "OverflowError RuntimeError NotImplementedError AttributeError StopIteration NotImplemented".split()
)

LIBRARY = {
    "heapq": "heappush heappop heapify heapreplace heappushpop".split(),
    "math": "gcd lcm isqrt comb perm factorial".split(),
    "itertools": "product combinations permutations chain accumulate pairwise islice zip_longest".split(),
    "collections": "defaultdict deque".split(),
}

# Methods of builtin values that may be called.
METHODS = set(
    "append clear copy count endswith extend find get index insert isalnum isalpha isdigit islower isspace isupper "
    "items join keys ljust lower lstrip partition pop remove replace reverse rfind rjust rpartition rsplit rstrip "
    "setdefault split splitlines startswith strip update upper values zfill bit_length".split()
)

BARRED_ATTRIBUTES = set(
    "items keys values pop update append clear extend insert remove reverse setdefault sort args encode decode hex "
    "fromhex format register mro elements open input law".split()
)

BARRED_NAMES = set(
    "attrgetter breakpoint builtins compile copyright credits delattr dir eval exec exit gc getattr globals hasattr "
    "help id importlib license locals methodcaller os quit setattr vars sys register mro elements open input law "
    "version_info with_traceback add_note".split()
)

BARRED_WORDS = (
    "type typing typing_extensions enum Enum IntEnum StrEnum Flag IntFlag Generic Protocol ABC ABCMeta namedtuple "
    "NamedTuple TypedDict TYPE_CHECKING abstractmethod"
).split()

# What is iterated on the spot, and what may take it.
ITERATED = ("zip", "enumerate", "reversed", "range", "items", "keys", "values")
TAKERS = ("list", "tuple", "dict", "sorted", "sum", "any", "all", "enumerate", "zip", "min", "max", "len")

IN_FINALLY = (
    ast.Assign, ast.If, ast.Attribute, ast.Name, ast.Load, ast.Store, ast.Constant, ast.Compare, ast.Is, ast.IsNot,
    ast.UnaryOp, ast.Not, ast.Pass,
)

AT_THE_TOP = (ast.ImportFrom, ast.FunctionDef, ast.ClassDef, ast.Assign)

PLACES = (ast.Name, ast.Attribute)

NEVER = (ast.Import, ast.AsyncFunctionDef, ast.Await, ast.AsyncFor, ast.AsyncWith, ast.Div)


class LanguageTest(unittest.TestCase):
    def files(self):
        for path in sorted(FOLDER.glob("*.py")):
            yield path.name, path.read_text(encoding="utf-8")

    def trees(self):
        for name, text in self.files():
            yield name, ast.parse(text)

    def test_files(self):
        names = [name for name, _ in self.files()]
        self.assertIn("__init__.py", names)
        others = [path.name for path in FOLDER.iterdir() if path.suffix != ".py" and path.name != "__pycache__"]
        self.assertEqual(others, [])

    def test_sizes_and_characters(self):
        for name, text in self.files():
            lines = text.split("\n")
            self.assertLess(len(lines), 400, name)
            self.assertLessEqual(max(len(line) for line in lines), 120, name)
            self.assertTrue(all(sign == "\n" or " " <= sign <= "~" for sign in text), name)
            self.assertNotIn("_wall", text)

    def test_functions_are_small(self):
        for name, tree in self.trees():
            for node in ast.walk(tree):
                if isinstance(node, ast.FunctionDef):
                    self.assertLessEqual(node.end_lineno - node.lineno + 1, 40, (name, node.name))

    def test_module_level(self):
        for name, tree in self.trees():
            bound = []
            for node in tree.body:
                if isinstance(node, ast.Expr):
                    self.assertIsInstance(node.value, ast.Constant, name)
                else:
                    self.assertIsInstance(node, AT_THE_TOP, name)
                    bound += self.bound_by(node)
            self.assertEqual(len(bound), len(set(bound)), name)

    def bound_by(self, node):
        if isinstance(node, ast.ImportFrom):
            return [alias.name for alias in node.names]
        if isinstance(node, ast.Assign):
            return [target.id for target in node.targets]
        return [node.name]

    def test_imports_name_the_file_that_defines(self):
        defined = {f"slideinto.{name[:-3]}": self.defined_in(tree) for name, tree in self.trees()}
        for name, tree in self.trees():
            for node in ast.walk(tree):
                if isinstance(node, ast.ImportFrom):
                    self.assertEqual(node.level, 0, name)
                    told = LIBRARY.get(node.module) or defined[node.module]
                    for alias in node.names:
                        self.assertIn(alias.name, told, name)
                        self.assertIsNone(alias.asname, name)

    def defined_in(self, tree):
        told = []
        for node in tree.body:
            if not isinstance(node, (ast.ImportFrom, ast.Expr)):
                told += self.bound_by(node)
        return told

    def test_statements_and_builtins(self):
        for name, tree in self.trees():
            for node in ast.walk(tree):
                self.assertNotIsInstance(node, NEVER, name)
                if isinstance(node, ast.Constant):
                    self.assertNotIsInstance(node.value, (float, complex), name)
                # Examples that are run in the same process leave a builtin of the name _.
                if isinstance(node, ast.Name) and node.id != "_" and hasattr(builtins, node.id):
                    self.assertIn(node.id, BUILTINS, name)
                    self.assertIsInstance(node.ctx, ast.Load, name)

    def test_no_local_name_is_that_of_an_import_or_a_class(self):
        for name, tree in self.trees():
            taken = []
            for node in tree.body:
                if isinstance(node, (ast.ImportFrom, ast.ClassDef)):
                    taken += self.bound_by(node)
            for node in ast.walk(tree):
                if isinstance(node, ast.arg):
                    self.assertNotIn(node.arg, taken, name)
                if isinstance(node, ast.Name) and isinstance(node.ctx, ast.Store):
                    self.assertNotIn(node.id, taken, name)

    def test_no_loop_changes_what_it_goes_over(self):
        for name, tree in self.trees():
            for node in ast.walk(tree):
                if isinstance(node, ast.For):
                    gone_over = {ast.unparse(part) for part in ast.walk(node.iter) if isinstance(part, PLACES)}
                    changed = [ast.unparse(place) for row in node.body for place in self.changed_in(row)]
                    self.assertEqual([place for place in changed if place in gone_over], [], (name, node.lineno))

    def changed_in(self, tree):
        for node in ast.walk(tree):
            if isinstance(node, ast.Call) and isinstance(node.func, ast.Attribute):
                if node.func.attr in ("append", "extend", "pop", "clear", "insert", "remove", "setdefault", "update"):
                    yield node.func.value
            if isinstance(node, ast.Subscript) and not isinstance(node.ctx, ast.Load):
                yield node.value

    def classes(self):
        for name, tree in self.trees():
            for node in tree.body:
                if isinstance(node, ast.ClassDef):
                    yield name, node

    def own_methods(self):
        return {
            part.name for _, node in self.classes() for part in node.body
            if isinstance(part, ast.FunctionDef) and not part.name.startswith("__")
        }

    def own_attributes(self):
        return {
            part.attr for _, tree in self.trees() for part in ast.walk(tree)
            if isinstance(part, ast.Attribute) and isinstance(part.ctx, ast.Store)
        }

    def test_methods_and_attributes(self):
        methods, attributes = self.own_methods(), self.own_attributes()
        self.assertEqual(attributes & BARRED_ATTRIBUTES, set())
        taken = {name for kind in (str, int, list, dict, set, bytes, tuple) for name in dir(kind)}
        self.assertEqual(methods & taken - METHODS, {"add"})
        allowed = set("count index title find get join lower upper split strip copy add".split())
        self.assertEqual(attributes & taken - allowed, set())
        for name, tree in self.trees():
            for node in ast.walk(tree):
                if isinstance(node, ast.Call) and isinstance(node.func, ast.Attribute):
                    self.assertIn(node.func.attr, METHODS | methods | {"__init__"}, (name, node.lineno))
                elif isinstance(node, ast.Attribute):
                    self.assertIn(node.attr, attributes | methods | METHODS | {"__init__"}, (name, node.lineno))

    def test_no_name_is_a_method_and_an_attribute_of_one_class(self):
        for name, node in self.classes():
            told = [part.name for part in node.body if isinstance(part, ast.FunctionDef)]
            self.assertEqual(len(told), len(set(told)), (name, node.name))
            stored = {
                part.attr for part in ast.walk(node)
                if isinstance(part, ast.Attribute) and isinstance(part.ctx, ast.Store)
            }
            self.assertEqual(stored & set(told), set(), (name, node.name))

    def test_names_and_words(self):
        for name, text in self.files():
            for node in ast.walk(ast.parse(text)):
                if isinstance(node, ast.Name):
                    self.assertNotIn(node.id, BARRED_NAMES, name)
                    self.assertFalse(node.id == "_" and isinstance(node.ctx, ast.Load), (name, node.lineno))
                if isinstance(node, (ast.FunctionDef, ast.arg)):
                    self.assertNotIn(node.name if isinstance(node, ast.FunctionDef) else node.arg, BARRED_NAMES, name)
            for token in tokenize.generate_tokens(io.StringIO(text).readline):
                if token.type in (tokenize.NAME, tokenize.STRING) and not token.string.startswith('"""'):
                    for word in BARRED_WORDS:
                        self.assertIsNone(re.search(rf"\b{word}\b", token.string), (name, token.start))
                if token.type == tokenize.STRING:
                    self.assertNotIn("%", token.string.replace('"""', ""), name)
                    self.assertEqual(re.sub(r"\\[nt\\\"']", "", token.string).count("\\"), 0, name)

    def test_no_sets_decorators_and_nested_functions(self):
        for name, tree in self.trees():
            for node in ast.walk(tree):
                self.assertNotIsInstance(node, (ast.Set, ast.SetComp, ast.Yield, ast.YieldFrom, ast.Global), name)
                if isinstance(node, (ast.FunctionDef, ast.ClassDef)):
                    self.assertEqual(node.decorator_list, [], name)
                if isinstance(node, ast.FunctionDef):
                    inner = [part for part in ast.walk(node) if isinstance(part, ast.FunctionDef)]
                    self.assertEqual(len(inner), 1, (name, node.name))
                if isinstance(node, ast.Name):
                    self.assertNotIn(node.id, ("set", "frozenset", "bytes"), name)

    def test_is_raise_and_finally(self):
        for name, tree in self.trees():
            for node in ast.walk(tree):
                if isinstance(node, ast.Compare):
                    for sign, other in zip(node.ops, node.comparators):
                        if isinstance(sign, (ast.Is, ast.IsNot)):
                            self.assertIn(ast.unparse(other), ("None", "True", "False"), name)
                if isinstance(node, ast.Raise):
                    self.assertIsInstance(node.exc, ast.Call, name)
                    self.assertIsInstance(node.exc.func, ast.Name, name)
                if isinstance(node, ast.Try):
                    for handler in node.handlers:
                        self.assertNotIn(ast.unparse(handler.type), ("ValueError", "LookupError", "IndexError"), name)
                    for part in node.finalbody:
                        for inner in ast.walk(part):
                            self.assertIsInstance(inner, IN_FINALLY, (name, node.lineno))

    def test_views_are_iterated_on_the_spot(self):
        for name, tree in self.trees():
            right = set()
            for node in ast.walk(tree):
                if isinstance(node, (ast.For, ast.comprehension)):
                    right.add(node.iter)
                if isinstance(node, ast.Call) and isinstance(node.func, ast.Name) and node.func.id in TAKERS:
                    right |= set(node.args[:1]) if node.func.id != "zip" else set(node.args)
                if isinstance(node, ast.Assign) and ast.unparse(node.value).startswith("range("):
                    right.add(node.value)
            for node in ast.walk(tree):
                if isinstance(node, ast.Call):
                    word = node.func.id if isinstance(node.func, ast.Name) else getattr(node.func, "attr", None)
                    if word in ITERATED:
                        self.assertIn(node, right, (name, node.lineno))

    def test_no_two_files_import_from_each_other(self):
        imports = {}
        for name, tree in self.trees():
            told = [node.module for node in ast.walk(tree) if isinstance(node, ast.ImportFrom)]
            imports[f"slideinto.{name[:-3]}"] = [module for module in told if module.startswith("slideinto.")]
        left = dict(imports)
        while left:
            ready = [module for module in left if not any(other in left for other in left[module])]
            self.assertNotEqual(ready, [], left)
            left = {module: left[module] for module in left if module not in ready}
