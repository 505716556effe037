"""Formulas: what is made of tests of single columns by `not`, `and` and `or`."""

from chartspec.expressions import COMPARISONS, parts_of

CONNECTIVES = ("not", "and", "or")


def is_formula(expression):
    """True if the expression, which is a boolean in some columns, is a formula, otherwise False."""
    if expression[0] in CONNECTIVES:
        return all([is_formula(part) for part in parts_of(expression)])
    return is_constant(expression) or is_test(expression)


def tests_of(formula):
    """The tests of the formula from left to right, a tuple."""
    if formula[0] in CONNECTIVES:
        return tuple([test for part in parts_of(formula) for test in tests_of(part)])
    return () if is_constant(formula) else (formula,)


def is_constant(expression):
    """True if the expression is a boolean cell or a missing one, otherwise False."""
    return expression[0] in ("cell", "nothing")


def is_test(expression):
    """True if the expression, a boolean, is a test, otherwise False."""
    word = expression[0]
    if word in COMPARISONS:
        return sorted([part[0] for part in expression[1:]]) == ["cell", "column"]
    return word == "column" or word in ("in", "missing") and expression[1][0] == "column"
