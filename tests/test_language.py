"""The rules of LANGUAGE.md that can be seen without understanding the program."""

import ast
import builtins
import re
import unittest
from pathlib import Path

PACKAGE = Path(__file__).resolve().parent.parent / "chartspec"
FILES = sorted(path for path in PACKAGE.rglob("*") if "__pycache__" not in path.parts)

LIBRARY = {
    "heapq": {"heappush", "heappop", "heapify", "heapreplace", "heappushpop"},
    "math": {"gcd", "lcm", "isqrt", "comb", "perm", "factorial"},
    "itertools": {"product", "combinations", "permutations", "chain", "accumulate", "pairwise", "islice",
                  "zip_longest"},
    "collections": {"defaultdict"},
}
BUILTINS = set(
    "len range enumerate zip min max sum abs sorted reversed int str bool list tuple dict set isinstance ord repr any "
    "all divmod pow map iter next property staticmethod classmethod super getattr hasattr setattr Exception ValueError "
    "TypeError KeyError IndexError LookupError ZeroDivisionError ArithmeticError OverflowError RuntimeError "
    "NotImplementedError AttributeError StopIteration NotImplemented".split())
STATEMENTS = (ast.FunctionDef, ast.ClassDef, ast.Return, ast.Delete, ast.Assign, ast.AugAssign, ast.AnnAssign, ast.For,
              ast.While, ast.If, ast.With, ast.Match, ast.Raise, ast.Try, ast.Assert, ast.ImportFrom, ast.Nonlocal,
              ast.Expr, ast.Pass, ast.Break, ast.Continue)
METHODS = set(
    "append clear copy count endswith extend find get index insert isalnum isalpha isdigit islower isspace isupper "
    "items join keys ljust lower lstrip partition pop remove replace reverse rfind rjust rpartition rsplit rstrip "
    "setdefault split splitlines startswith strip update upper values zfill bit_length add discard".split())
# What L23 allows to iterate over these on the spot, beside loops and comprehensions.
ITERATORS = set("range zip enumerate reversed".split())
MODIFYING = set("append clear extend insert pop remove reverse setdefault update".split())
TAKERS = set("list tuple dict sorted sum any all enumerate zip min max".split())
# Words that L17 bars from a file, comments and docstrings excepted.
BARRED = set(
    "type typing typing_extensions enum Enum IntEnum StrEnum Flag IntFlag Generic Protocol ABC ABCMeta namedtuple "
    "NamedTuple TypedDict TYPE_CHECKING abstractmethod register mro elements open input law version_info".split())


def trees():
    return [(path, ast.parse(path.read_text(encoding="utf-8"))) for path in FILES]


def nodes(*kinds):
    return [(path, node) for path, tree in trees() for node in ast.walk(tree) if isinstance(node, kinds)]


def called_name(call):
    return call.func.id if isinstance(call.func, ast.Name) else ""


def bound_names(tree):
    """All names that a file gives to something: parameters, variables, functions, classes, imports."""
    for node in ast.walk(tree):
        if isinstance(node, ast.arg):
            yield node.arg
        elif isinstance(node, ast.Name) and isinstance(node.ctx, ast.Store):
            yield node.id
        elif isinstance(node, (ast.FunctionDef, ast.ClassDef)):
            yield node.name
        elif isinstance(node, ast.alias):
            yield node.asname or node.name


def module_names(tree):
    """The names that the module level of a file binds, each as often as it is bound."""
    for node in tree.body:
        if isinstance(node, (ast.FunctionDef, ast.ClassDef)):
            yield node.name
        elif isinstance(node, ast.ImportFrom):
            yield from [alias.name for alias in node.names]
        elif isinstance(node, ast.Assign):
            yield from [target.id for target in node.targets]


class FileTest(unittest.TestCase):
    def test_the_package_holds_nothing_but_its_files(self):
        self.assertIn(PACKAGE / "__init__.py", FILES)
        for path in FILES:
            self.assertRegex(path.name, r"^[a-z0-9_]+\.py$")

    def test_sizes(self):
        for path in FILES:
            lines = path.read_text(encoding="utf-8").split("\n")
            self.assertLessEqual(len(lines), 399, path)
            for line in lines:
                self.assertLessEqual(len(line), 120, (path, line))
        for path, node in nodes(ast.FunctionDef):
            self.assertLessEqual(node.end_lineno - node.lineno + 1, 40, (path, node.name))

    def test_characters(self):
        for path in FILES:
            self.assertIsNone(re.search(r"[^ -~\n]", path.read_text(encoding="utf-8")), path)

    def test_strings(self):
        for path, node in nodes(ast.Constant):
            if isinstance(node.value, str):
                self.assertNotIn("%", node.value, (path, node.lineno))
            self.assertNotIsInstance(node.value, (float, complex), (path, node.lineno))


class StatementTest(unittest.TestCase):
    def test_imports(self):
        for path, node in nodes(ast.ImportFrom):
            first, _, rest = node.module.partition(".")
            self.assertEqual(node.level, 0, path)
            for alias in node.names:
                self.assertIsNone(alias.asname, path)
                if first == "chartspec":
                    source = ast.parse((PACKAGE / f"{rest}.py").read_text(encoding="utf-8"))
                    self.assertIn(alias.name, list(module_names(source)), path)
                else:
                    self.assertIn(alias.name, LIBRARY[node.module], path)

    def test_every_import_is_used(self):
        for path, tree in trees():
            used = {node.id for node in ast.walk(tree) if isinstance(node, ast.Name)}
            for node in tree.body:
                if isinstance(node, ast.ImportFrom):
                    self.assertLessEqual({alias.name for alias in node.names}, used, path)

    def test_no_two_files_import_from_each_other(self):
        sources = {path.stem: [node.module.partition(".")[2] for node in ast.walk(tree)
                               if isinstance(node, ast.ImportFrom)] for path, tree in trees()}
        while sources:
            free = [name for name, found in sources.items() if not [other for other in found if other in sources]]
            self.assertTrue(free, sources)
            sources = {name: found for name, found in sources.items() if name not in free}

    def test_only_allowed_statements(self):
        for path, node in nodes(ast.stmt):
            self.assertIsInstance(node, STATEMENTS, (path, node.lineno))

    def test_module_level(self):
        for path, tree in trees():
            for node in tree.body:
                docstring = isinstance(node, ast.Expr) and isinstance(node.value, ast.Constant)
                plain = isinstance(node, (ast.FunctionDef, ast.ClassDef, ast.ImportFrom, ast.Assign))
                self.assertTrue(plain or docstring, (path, node.lineno))
            names = list(module_names(tree))
            self.assertEqual(len(names), len(set(names)), path)

    def test_decorators(self):
        for path, node in nodes(ast.FunctionDef, ast.ClassDef):
            for decorator in node.decorator_list:
                self.assertIn(ast.unparse(decorator).split(".")[-1],
                              ("property", "setter", "staticmethod", "classmethod"), path)

    def test_no_true_division(self):
        for path, node in nodes(ast.BinOp, ast.AugAssign):
            self.assertNotIsInstance(node.op, (ast.Div, ast.MatMult), (path, node.lineno))

    def test_exponents_are_small_literals(self):
        for path, node in nodes(ast.BinOp, ast.AugAssign):
            if isinstance(node.op, ast.Pow):
                exponent = node.right if isinstance(node, ast.BinOp) else node.value
                self.assertIsInstance(exponent, ast.Constant, (path, node.lineno))
                self.assertIn(exponent.value, range(65), (path, node.lineno))

    def test_ranges_and_their_kin_are_iterated_at_once(self):
        for path, tree in trees():
            allowed = [node.iter for node in ast.walk(tree) if isinstance(node, (ast.For, ast.comprehension))]
            allowed += [node.args[0] for node in ast.walk(tree)
                        if isinstance(node, ast.Call) and called_name(node) in TAKERS and node.args]
            for node in ast.walk(tree):
                if isinstance(node, ast.Call) and called_name(node) in ITERATORS:
                    self.assertIn(node, allowed, (path, node.lineno))

    def test_generators_are_iterated_at_once(self):
        yielding = {node.name for _, node in nodes(ast.FunctionDef)
                    if [part for part in ast.walk(node) if isinstance(part, (ast.Yield, ast.YieldFrom))]}
        self.assertTrue(yielding)
        for path, tree in trees():
            allowed = [node.iter for node in ast.walk(tree) if isinstance(node, (ast.For, ast.comprehension))]
            allowed += [node.value for node in ast.walk(tree) if isinstance(node, ast.YieldFrom)]
            allowed += [node.args[0] for node in ast.walk(tree)
                        if isinstance(node, ast.Call) and called_name(node) in TAKERS and node.args]
            for node in ast.walk(tree):
                if isinstance(node, ast.Call) and called_name(node) in yielding:
                    self.assertIn(node, allowed, (path, node.lineno))
                    for part in node.args:
                        self.assertIsInstance(part, (ast.Name, ast.Attribute, ast.Constant), (path, node.lineno))

    def test_no_loop_modifies_what_it_goes_over(self):
        for path, node in nodes(ast.For):
            if isinstance(node.iter, (ast.Name, ast.Attribute)):
                for call in ast.walk(node):
                    if isinstance(call, ast.Call) and isinstance(call.func, ast.Attribute):
                        if call.func.attr in MODIFYING:
                            self.assertNotEqual(ast.unparse(call.func.value), ast.unparse(node.iter),
                                                (path, call.lineno))

    def test_is_stands_beside_none_true_or_false(self):
        for path, node in nodes(ast.Compare):
            if [op for op in node.ops if isinstance(op, (ast.Is, ast.IsNot))]:
                self.assertIsInstance(node.comparators[0], ast.Constant, (path, node.lineno))


class NameTest(unittest.TestCase):
    def test_nothing_has_the_name_of_a_builtin(self):
        for path, tree in trees():
            for name in bound_names(tree):
                self.assertNotIn(name, vars(builtins), path)
                self.assertNotIn(name, BARRED, path)

    def test_only_allowed_builtins(self):
        for path, node in nodes(ast.Name):
            if node.id in vars(builtins):
                self.assertIn(node.id, BUILTINS, (path, node.lineno))

    def test_no_local_name_is_that_of_an_import_or_a_class(self):
        for path, tree in trees():
            names = [alias.name for node in tree.body if isinstance(node, ast.ImportFrom) for alias in node.names]
            names += [node.name for node in tree.body if isinstance(node, ast.ClassDef)]
            bound = list(bound_names(tree))
            for name in names:
                self.assertEqual(bound.count(name), 1, (path, name))

    def test_only_allowed_methods(self):
        own = {node.name for _, node in nodes(ast.FunctionDef)}
        for path, node in nodes(ast.Call):
            if isinstance(node.func, ast.Attribute):
                self.assertIn(node.func.attr, METHODS | own, (path, node.lineno))

    def test_no_barred_words(self):
        for path, node in nodes(ast.Attribute, ast.keyword):
            name = node.attr if isinstance(node, ast.Attribute) else node.arg
            self.assertNotIn(name, BARRED, path)


if __name__ == "__main__":
    unittest.main()
