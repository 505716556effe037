"""Point 361."""

import copy
import unittest
from random import Random

from samples import whole

from chartspec.formulas import is_formula, tests_of

N, S, P = ("column", "n"), ("column", "s"), ("column", "p")
ONE, TEXT = ("cell", (1, 1)), ("cell", "a")

TESTS = (P, ("missing", N), ("missing", P), ("in", S, ("a", "b")), ("in", P, (True,)), ("=", P, ("cell", False))) + tuple(
    (word,) + parts for word in ("=", "<>", "<", "<=", ">", ">=") for parts in ((N, ONE), (TEXT, S)))
CONSTANTS = (("cell", True), ("cell", False), ("nothing", "boolean"))
OTHERS = (
    ("=", N, N), ("<", ONE, ONE), ("=", S, ("nothing", "text")), ("=", ("+", N, ONE), ONE), ("<", ("length", S), ONE),
    (">", ONE, ("abs", N)), ("in", ("join", S, S), ("a",)), ("in", TEXT, ("a",)), ("missing", ("+", N, N)),
    ("missing", ("cell", True)), ("if", P, P, P), ("least", P, P), ("greatest", P, ("cell", True)), ("=", P, ("not", P)),
    ("missing", ("missing", N)), ("in", ("missing", N), (True,)))


class FormulaTest(unittest.TestCase):
    def test_tests(self):
        for test in TESTS:
            self.assertIs(is_formula(test), True, test)
            self.assertEqual(tests_of(test), (test,))

    def test_constants(self):
        for constant in CONSTANTS:
            self.assertIs(is_formula(constant), True, constant)
            self.assertEqual(tests_of(constant), ())

    def test_other_expressions(self):
        for other in OTHERS:
            self.assertIs(is_formula(other), False, other)

    def test_what_formulas_are_made_of(self):
        for part in TESTS + CONSTANTS:
            for made in (("not", part), ("and", part, P), ("or", P, part), ("not", ("or", part, ("and", part, part)))):
                self.assertIs(is_formula(made), True, made)
        for part in OTHERS:
            for made in (("not", part), ("and", part, P), ("or", P, part), ("and", P, ("or", P, ("not", part)))):
                self.assertIs(is_formula(made), False, made)

    def test_a_comparison_of_formulas_is_none(self):
        self.assertIs(is_formula(("=", ("not", P), ("cell", True))), False)
        self.assertIs(is_formula(("and", ("<>", ("missing", N), P), P)), False)

    def test_the_tests_from_left_to_right(self):
        first, second, third = TESTS[3], TESTS[1], TESTS[-1]
        formula = ("or", ("not", first), ("and", ("and", second, ("cell", True)), ("or", first, ("not", ("not", third)))))
        self.assertEqual(tests_of(formula), (first, second, first, third))
        self.assertEqual(tests_of(("or", P, P)), (P, P))
        self.assertEqual(tests_of(("and", ("nothing", "boolean"), ("not", ("cell", False)))), ())

    def test_random_formulas(self):
        random = Random(361)

        def some_formula(depth):
            word = random.choice(("not", "and", "or", "test", "constant"))
            if depth == 0 or word == "test":
                test = random.choice(TESTS)
                return test, (test,)
            if word == "constant":
                return random.choice(CONSTANTS), ()
            parts = [some_formula(depth - 1) for _ in range(1 if word == "not" else 2)]
            return (word,) + tuple(part for part, _ in parts), sum((tests for _, tests in parts), ())

        for _ in range(200):
            formula, tests = some_formula(4)
            before = copy.deepcopy(formula)
            self.assertTrue(is_formula(formula))
            self.assertEqual(tests_of(formula), tests)
            self.assertEqual(formula, before)

    def test_numbers_as_cells(self):
        self.assertIs(is_formula(("in", N, whole(1, 2))), True)


if __name__ == "__main__":
    unittest.main()
