"""The rules of LANGUAGE.md that can be seen without understanding the program."""

import ast
import builtins
import re
import unittest
from pathlib import Path

PACKAGE = Path(__file__).resolve().parent.parent / "chartspec"
FILES = sorted(path for path in PACKAGE.rglob("*") if "__pycache__" not in path.parts)

LIBRARY = {
    "heapq": {"heappush", "heappop", "heapify", "heapreplace", "heappushpop"},
    "math": {"gcd", "lcm", "isqrt", "comb", "perm", "factorial"},
    "itertools": {"product", "combinations", "permutations", "chain", "accumulate", "pairwise", "islice",
                  "zip_longest"},
    "collections": {"defaultdict"},
}
BUILTINS = set(
    "len range enumerate zip min max sum abs sorted reversed int str bool list tuple dict set isinstance ord repr any "
    "all divmod pow map iter next property staticmethod classmethod super getattr hasattr setattr Exception ValueError "
    "TypeError KeyError IndexError LookupError ZeroDivisionError ArithmeticError OverflowError RuntimeError "
    "NotImplementedError AttributeError StopIteration NotImplemented".split())
STATEMENTS = (ast.FunctionDef, ast.ClassDef, ast.Return, ast.Delete, ast.Assign, ast.AugAssign, ast.AnnAssign, ast.For,
              ast.While, ast.If, ast.With, ast.Match, ast.Raise, ast.Try, ast.Assert, ast.ImportFrom, ast.Nonlocal,
              ast.Expr, ast.Pass, ast.Break, ast.Continue)
METHODS = set(
    "append clear copy count endswith extend find get index insert isalnum isalpha isdigit islower isspace isupper "
    "items join keys ljust lower lstrip partition pop remove replace reverse rfind rjust rpartition rsplit rstrip "
    "setdefault split splitlines startswith strip update upper values zfill bit_length add discard".split())
# What L23 allows to iterate over these on the spot, beside loops and comprehensions.
ITERATORS = set("range zip enumerate reversed".split())
MODIFYING = set("append clear extend insert pop remove reverse setdefault update".split())
TAKERS = set("list tuple dict sorted sum any all enumerate zip min max".split())
# Words that L17 bars from a file, comments and docstrings excepted.
BARRED = set(
    "type typing typing_extensions enum Enum IntEnum StrEnum Flag IntFlag Generic Protocol ABC ABCMeta namedtuple "
    "NamedTuple TypedDict TYPE_CHECKING abstractmethod register mro elements open input law version_info".split())


def trees():
    return [(path, ast.parse(path.read_text(encoding="utf-8"))) for path in FILES]


def nodes(*kinds):
    return [(path, node) for path, tree in trees() for node in ast.walk(tree) if isinstance(node, kinds)]


def called_name(call):
    return call.func.id if isinstance(call.func, ast.Name) else ""


def bound_names(tree):
    """All names that a file gives to something: parameters, variables, functions, classes, imports."""
    for node in ast.walk(tree):
        if isinstance(node, ast.arg):
            yield node.arg
        elif isinstance(node, ast.Name) and isinstance(node.ctx, ast.Store):
            yield node.id
        elif isinstance(node, (ast.FunctionDef, ast.ClassDef)):
            yield node.name
        elif isinstance(node, ast.alias):
            yield node.asname or node.name


def module_names(tree):
    """The names that the module level of a file binds, each as often as it is bound."""
    for node in tree.body:
        if isinstance(node, (ast.FunctionDef, ast.ClassDef)):
            yield node.name
        elif isinstance(node, ast.ImportFrom):
            yield from [alias.name for alias in node.names]
        elif isinstance(node, ast.Assign):
            yield from [target.id for target in node.targets]


def given(value):
    """The texts of the names, attributes and items that an expression may be, a choice between several included."""
    if isinstance(value, ast.IfExp):
        return given(value.body) + given(value.orelse)
    if isinstance(value, ast.BoolOp):
        return [text for part in value.values for text in given(part)]
    return [ast.unparse(value)] if isinstance(value, (ast.Name, ast.Attribute, ast.Subscript)) else []


def assigned(target, value):
    """The pairs of texts of a target and of what an assignment gives to it."""
    if isinstance(target, ast.Tuple) and isinstance(value, ast.Tuple):
        return [pair for parts in zip(target.elts, value.elts) for pair in assigned(*parts)]
    return [(ast.unparse(target), text) for text in given(value)]


def names_of_same(function):
    """The sets of the texts that the assignments of a function may make names of the same thing."""
    groups = []
    pairs = [pair for node in ast.walk(function) if isinstance(node, ast.Assign) for target in node.targets
             for pair in assigned(target, node.value)]
    for pair in pairs:
        joined = [group for group in groups if group & set(pair)]
        groups = [group for group in groups if group not in joined] + [set(pair).union(*joined)]
    return groups


def walked(value):
    """The texts of what a loop over an expression goes over, if it goes over no copy."""
    if isinstance(value, ast.Call):
        if called_name(value) in ITERATORS:
            return [text for part in value.args for text in walked(part)]
        view = isinstance(value.func, ast.Attribute) and value.func.attr in ("items", "keys", "values")
        return walked(value.func.value) if view else []
    return given(value)


def changed(part):
    """The texts of what is modified in a part of a file, by a method, a heap, an item or an augmented assignment."""
    for node in ast.walk(part):
        if isinstance(node, ast.Call) and isinstance(node.func, ast.Attribute) and node.func.attr in MODIFYING:
            yield ast.unparse(node.func.value)
        elif isinstance(node, ast.Call) and called_name(node) in LIBRARY["heapq"]:
            yield ast.unparse(node.args[0])
        elif isinstance(node, ast.Subscript) and not isinstance(node.ctx, ast.Load):
            yield ast.unparse(node.value)
        elif isinstance(node, ast.AugAssign):
            yield ast.unparse(node.target)


def changed_while_walked(function):
    """The lines and texts of what loops and comprehensions of a function change while they go over it by any name."""
    groups = names_of_same(function)
    heads = [(node, [node.iter]) for node in ast.walk(function) if isinstance(node, ast.For)]
    heads += [(node, [part.iter for part in node.generators]) for node in ast.walk(function)
              if isinstance(node, (ast.ListComp, ast.SetComp, ast.DictComp, ast.GeneratorExp))]
    return [(node.lineno, text) for node, values in heads for text in changed(node) for value in values
            for name in walked(value) if name == text or [group for group in groups if {name, text} <= group]]


def some_loop(head, body):
    """A function in which xs, ys and zs are names of one list, and vs is a name of us or box.rows."""
    return ast.parse("def f(xs, us, box):\n    ys = xs\n    vs, zs = us or box.rows, ys\n    ts = list(xs)\n"
                     f"    for x in {head}:\n        {body}\n").body[0]


class FileTest(unittest.TestCase):
    def test_the_package_holds_nothing_but_its_files(self):
        self.assertIn(PACKAGE / "__init__.py", FILES)
        for path in FILES:
            self.assertRegex(path.name, r"^[a-z0-9_]+\.py$")

    def test_sizes(self):
        for path in FILES:
            lines = path.read_text(encoding="utf-8").split("\n")
            self.assertLessEqual(len(lines), 399, path)
            for line in lines:
                self.assertLessEqual(len(line), 120, (path, line))
        for path, node in nodes(ast.FunctionDef):
            self.assertLessEqual(node.end_lineno - node.lineno + 1, 40, (path, node.name))

    def test_characters(self):
        for path in FILES:
            self.assertIsNone(re.search(r"[^ -~\n]", path.read_text(encoding="utf-8")), path)

    def test_strings(self):
        for path, node in nodes(ast.Constant):
            if isinstance(node.value, str):
                self.assertNotIn("%", node.value, (path, node.lineno))
            self.assertNotIsInstance(node.value, (float, complex), (path, node.lineno))


class StatementTest(unittest.TestCase):
    def test_imports(self):
        for path, node in nodes(ast.ImportFrom):
            first, _, rest = node.module.partition(".")
            self.assertEqual(node.level, 0, path)
            for alias in node.names:
                self.assertIsNone(alias.asname, path)
                if first == "chartspec":
                    source = ast.parse((PACKAGE / f"{rest}.py").read_text(encoding="utf-8"))
                    self.assertIn(alias.name, list(module_names(source)), path)
                else:
                    self.assertIn(alias.name, LIBRARY[node.module], path)

    def test_every_import_is_used(self):
        for path, tree in trees():
            used = {node.id for node in ast.walk(tree) if isinstance(node, ast.Name)}
            for node in tree.body:
                if isinstance(node, ast.ImportFrom):
                    self.assertLessEqual({alias.name for alias in node.names}, used, path)

    def test_no_two_files_import_from_each_other(self):
        sources = {path.stem: [node.module.partition(".")[2] for node in ast.walk(tree)
                               if isinstance(node, ast.ImportFrom)] for path, tree in trees()}
        while sources:
            free = [name for name, found in sources.items() if not [other for other in found if other in sources]]
            self.assertTrue(free, sources)
            sources = {name: found for name, found in sources.items() if name not in free}

    def test_only_allowed_statements(self):
        for path, node in nodes(ast.stmt):
            self.assertIsInstance(node, STATEMENTS, (path, node.lineno))

    def test_module_level(self):
        for path, tree in trees():
            for node in tree.body:
                docstring = isinstance(node, ast.Expr) and isinstance(node.value, ast.Constant)
                plain = isinstance(node, (ast.FunctionDef, ast.ClassDef, ast.ImportFrom, ast.Assign))
                self.assertTrue(plain or docstring, (path, node.lineno))
            names = list(module_names(tree))
            self.assertEqual(len(names), len(set(names)), path)

    def test_decorators(self):
        for path, node in nodes(ast.FunctionDef, ast.ClassDef):
            for decorator in node.decorator_list:
                self.assertIn(ast.unparse(decorator).split(".")[-1],
                              ("property", "setter", "staticmethod", "classmethod"), path)

    def test_no_true_division(self):
        for path, node in nodes(ast.BinOp, ast.AugAssign):
            self.assertNotIsInstance(node.op, (ast.Div, ast.MatMult), (path, node.lineno))

    def test_exponents_are_small_literals(self):
        for path, node in nodes(ast.BinOp, ast.AugAssign):
            if isinstance(node.op, ast.Pow):
                exponent = node.right if isinstance(node, ast.BinOp) else node.value
                self.assertIsInstance(exponent, ast.Constant, (path, node.lineno))
                self.assertIn(exponent.value, range(65), (path, node.lineno))

    def test_ranges_and_their_kin_are_iterated_at_once(self):
        for path, tree in trees():
            allowed = [node.iter for node in ast.walk(tree) if isinstance(node, (ast.For, ast.comprehension))]
            allowed += [node.args[0] for node in ast.walk(tree)
                        if isinstance(node, ast.Call) and called_name(node) in TAKERS and node.args]
            for node in ast.walk(tree):
                if isinstance(node, ast.Call) and called_name(node) in ITERATORS:
                    self.assertIn(node, allowed, (path, node.lineno))

    def test_generators_are_iterated_at_once(self):
        yielding = {node.name for _, node in nodes(ast.FunctionDef)
                    if [part for part in ast.walk(node) if isinstance(part, (ast.Yield, ast.YieldFrom))]}
        self.assertTrue(yielding)
        for path, tree in trees():
            allowed = [node.iter for node in ast.walk(tree) if isinstance(node, (ast.For, ast.comprehension))]
            allowed += [node.value for node in ast.walk(tree) if isinstance(node, ast.YieldFrom)]
            allowed += [node.args[0] for node in ast.walk(tree)
                        if isinstance(node, ast.Call) and called_name(node) in TAKERS and node.args]
            for node in ast.walk(tree):
                if isinstance(node, ast.Call) and called_name(node) in yielding:
                    self.assertIn(node, allowed, (path, node.lineno))
                    for part in node.args:
                        self.assertIsInstance(part, (ast.Name, ast.Attribute, ast.Constant), (path, node.lineno))

    def test_no_loop_modifies_what_it_goes_over(self):
        for path, node in nodes(ast.FunctionDef):
            self.assertEqual(changed_while_walked(node), [], (path, node.name))

    def test_what_a_loop_goes_over_is_known_by_all_its_names(self):
        for head, body in (("xs", "xs.append(x)"), ("xs", "ys.append(x)"), ("ys", "xs.pop()"), ("xs", "zs[0] = x"),
                           ("enumerate(xs)", "ys.append(x)"), ("zip(zs, us)", "del ys[0]"), ("us", "us += [x]"),
                           ("us.items()", "us.setdefault(x, 1)"), ("xs if x else us", "vs.clear()"),
                           ("box.rows", "vs.append(x)"), ("xs", "heappush(ys, x)"), ("xs", "xs.pop().append(x)")):
            found = changed_while_walked(some_loop(head, body))
            self.assertEqual(len(found), 1, (head, body))
        for head, body in (("list(xs)", "ys.append(x)"), ("xs", "us.append(x)"), ("xs", "xs = [x]"),
                           ("xs", "ts[0] = x"), ("xs + ys", "ys.append(x)"), ("sorted(us)", "us.pop(x)"),
                           ("range(len(xs))", "xs.pop()")):
            self.assertEqual(changed_while_walked(some_loop(head, body)), [], (head, body))

    def test_is_stands_beside_none_true_or_false(self):
        for path, node in nodes(ast.Compare):
            if [op for op in node.ops if isinstance(op, (ast.Is, ast.IsNot))]:
                self.assertIsInstance(node.comparators[0], ast.Constant, (path, node.lineno))


class NameTest(unittest.TestCase):
    def test_nothing_has_the_name_of_a_builtin(self):
        for path, tree in trees():
            for name in bound_names(tree):
                self.assertNotIn(name, vars(builtins), path)
                self.assertNotIn(name, BARRED, path)

    def test_only_allowed_builtins(self):
        for path, node in nodes(ast.Name):
            if node.id in vars(builtins):
                self.assertIn(node.id, BUILTINS, (path, node.lineno))

    def test_no_local_name_is_that_of_an_import_or_a_class(self):
        for path, tree in trees():
            names = [alias.name for node in tree.body if isinstance(node, ast.ImportFrom) for alias in node.names]
            names += [node.name for node in tree.body if isinstance(node, ast.ClassDef)]
            bound = list(bound_names(tree))
            for name in names:
                self.assertEqual(bound.count(name), 1, (path, name))

    def test_only_allowed_methods(self):
        own = {node.name for _, node in nodes(ast.FunctionDef)}
        for path, node in nodes(ast.Call):
            if isinstance(node.func, ast.Attribute):
                self.assertIn(node.func.attr, METHODS | own, (path, node.lineno))

    def test_no_barred_words(self):
        for path, node in nodes(ast.Attribute, ast.keyword):
            name = node.attr if isinstance(node, ast.Attribute) else node.arg
            self.assertNotIn(name, BARRED, path)


if __name__ == "__main__":
    unittest.main()
