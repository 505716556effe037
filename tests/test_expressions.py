"""Points 142 to 145."""

import copy
import unittest
from fractions import Fraction
from itertools import product

from samples import pair

from chartspec.expressions import columns_in, evaluate, kind_of, places

EDGE = 10 ** 12 - 1
COLUMNS = (("n", "number"), ("m", "number"), ("s", "text"), ("t", "text"), ("p", "boolean"), ("q", "boolean"))
KINDS = {"number": ("n", "m"), "text": ("s", "t"), "boolean": ("p", "q")}

UNARY = {"minus": ("number", "number"), "abs": ("number", "number"), "floor": ("number", "number"),
         "ceil": ("number", "number"), "round": ("number", "number"), "length": ("text", "number"),
         "not": ("boolean", "boolean")}
BINARY = {"+": ("number", "number"), "-": ("number", "number"), "*": ("number", "number"), "/": ("number", "number"),
          "join": ("text", "text"), "and": ("boolean", "boolean"), "or": ("boolean", "boolean")}
COMPARISONS = ("=", "<>", "<", "<=", ">", ">=")


def column(name):
    return ("column", name)


def cell(found):
    return ("cell", found)


def whole(number):
    return (number, 1)


def value(word, *cells):
    """The value of an operation for these cells, each from a column of its own, with its kind checked."""
    kinds = ["text" if isinstance(found, str) else "number" if isinstance(found, tuple) else "boolean"
             for found in cells]
    columns = tuple((f"c{at}", kind) for at, kind in enumerate(kinds))
    return evaluate((word,) + tuple(column(name) for name, _ in columns), columns, cells)


def missing_parts(word, kind, present, many):
    """The values of an operation for every choice of parts, some missing, as a dict by which of them are there."""
    columns = tuple((f"c{at}", kind) for at in range(many))
    expression = (word,) + tuple(column(name) for name, _ in columns)
    return {there: evaluate(expression, columns, tuple(present if here else None for here in there))
            for there in product((False, True), repeat=many)}


class ExampleTest(unittest.TestCase):
    def test_a_comparison_with_a_missing_amount(self):
        columns = (("name", "text"), ("amount", "number"))
        expression = (">", column("amount"), cell((1, 1)))
        self.assertEqual(kind_of(expression, columns), "boolean")
        self.assertIsNone(evaluate(expression, columns, ("a", None)))
        self.assertIs(evaluate(expression, columns, ("a", (2, 1))), True)
        self.assertIs(evaluate(expression, columns, ("a", (1, 1))), False)

    def test_a_share(self):
        columns = (("name", "text"), ("amount", "number"))
        share = ("/", column("amount"), cell((3, 1)))
        self.assertEqual(kind_of(share, columns), "number")
        self.assertEqual(evaluate(share, columns, ("a", (2, 1))), (2, 3))
        self.assertIsNone(kind_of(("+", column("name"), column("amount")), columns))


class PlacesTest(unittest.TestCase):
    def test_single_places(self):
        for expression in (cell((1, 1)), cell("minus"), ("nothing", "text"), column("n")):
            self.assertEqual(places(expression), 1)

    def test_operations(self):
        self.assertEqual(places(("minus", column("n"))), 2)
        self.assertEqual(places(("+", column("n"), cell((1, 1)))), 3)
        self.assertEqual(places(("if", column("p"), cell("a"), cell("b"))), 4)

    def test_listed_cells_are_no_places(self):
        self.assertEqual(places(("in", column("s"), ("a", "b", "c"))), 2)

    def test_equal_expressions_count_each_time(self):
        twice = ("+", column("n"), column("n"))
        self.assertEqual(places(("*", twice, twice)), 7)
        self.assertEqual(places(("if", ("not", ("missing", twice)), ("minus", twice), twice)), 13)

    def test_a_chain_of_fifteen(self):
        expression = column("n")
        for _ in range(14):
            expression = ("minus", expression)
        self.assertEqual(places(expression), 15)


class ColumnsTest(unittest.TestCase):
    def test_no_columns(self):
        for expression in (cell("n"), ("nothing", "number"), ("join", cell("column"), cell("n"))):
            self.assertEqual(columns_in(expression), ())

    def test_from_left_to_right(self):
        expression = ("if", ("<", column("m"), column("n")), column("t"), column("s"))
        self.assertEqual(columns_in(expression), ("m", "n", "t", "s"))
        expression = ("+", ("*", column("d"), ("minus", column("c"))), ("abs", column("b")))
        self.assertEqual(columns_in(expression), ("d", "c", "b"))

    def test_each_once_where_it_is_met_first(self):
        expression = ("+", ("*", column("b"), column("a")), ("*", column("a"), ("+", column("c"), column("b"))))
        self.assertEqual(columns_in(expression), ("b", "a", "c"))

    def test_listed_cells_are_no_columns(self):
        self.assertEqual(columns_in(("in", column("s"), ("t", "n"))), ("s",))


class KindTest(unittest.TestCase):
    def test_single_places(self):
        for found, kind in (((1, 1), "number"), ("a", "text"), (True, "boolean"), (False, "boolean")):
            self.assertEqual(kind_of(cell(found), ()), kind)
        for kind, (name, _) in KINDS.items():
            self.assertEqual(kind_of(("nothing", kind), ()), kind)
            self.assertEqual(kind_of(column(name), COLUMNS), kind)

    def test_operations_with_one_part(self):
        for (word, (part, own)), kind in product(UNARY.items(), KINDS):
            expected = own if kind == part else None
            self.assertEqual(kind_of((word, column(KINDS[kind][0])), COLUMNS), expected, (word, kind))

    def test_operations_with_two_parts(self):
        for (word, (part, own)), first, second in product(BINARY.items(), KINDS, KINDS):
            expected = own if first == second == part else None
            found = kind_of((word, column(KINDS[first][0]), column(KINDS[second][1])), COLUMNS)
            self.assertEqual(found, expected, (word, first, second))

    def test_operations_with_parts_of_one_kind(self):
        for first, second in product(KINDS, repeat=2):
            parts = (column(KINDS[first][0]), column(KINDS[second][1]))
            for word in COMPARISONS:
                self.assertEqual(kind_of((word,) + parts, COLUMNS), "boolean" if first == second else None)
            for word in ("least", "greatest"):
                self.assertEqual(kind_of((word,) + parts, COLUMNS), first if first == second else None)

    def test_operations_with_a_part_of_any_kind(self):
        for name, _ in COLUMNS:
            self.assertEqual(kind_of(("text", column(name)), COLUMNS), "text")
            self.assertEqual(kind_of(("missing", column(name)), COLUMNS), "boolean")

    def test_listed_cells(self):
        for kind, cells in (("number", ((1, 1), (2, 1))), ("text", ("a",)), ("boolean", (True, False))):
            for other in KINDS:
                found = kind_of(("in", column(KINDS[other][0]), cells), COLUMNS)
                self.assertEqual(found, "boolean" if kind == other else None)
        self.assertIsNone(kind_of(("in", column("s"), ("a", (1, 1))), COLUMNS))
        self.assertIsNone(kind_of(("in", column("n"), ((1, 1), True)), COLUMNS))
        self.assertIsNone(kind_of(("in", column("n"), ((1, 1), (2, 1), "1")), COLUMNS))

    def test_choices(self):
        for test, first, second in product(KINDS, repeat=3):
            expression = ("if",) + tuple(column(KINDS[kind][0]) for kind in (test, first, second))
            expected = first if test == "boolean" and first == second else None
            self.assertEqual(kind_of(expression, COLUMNS), expected)

    def test_a_column_that_is_not_there(self):
        unknown = column("unknown")
        self.assertIsNone(kind_of(unknown, COLUMNS))
        self.assertIsNone(kind_of(column("n"), ()))
        for expression in (("text", unknown), ("missing", unknown), ("in", unknown, ("a",)), ("minus", unknown),
                           ("=", unknown, unknown), ("least", unknown, unknown), ("+", column("n"), unknown),
                           ("if", column("p"), unknown, unknown), ("if", unknown, column("n"), column("n")),
                           ("if", column("p"), column("n"), unknown)):
            self.assertIsNone(kind_of(expression, COLUMNS), expression)

    def test_a_part_without_a_kind(self):
        wrong = ("+", column("n"), column("s"))
        for expression in (("missing", wrong), ("text", wrong), ("not", ("not", wrong)), ("=", wrong, wrong),
                           ("and", column("p"), ("missing", wrong)), ("if", column("p"), wrong, column("n"))):
            self.assertIsNone(kind_of(expression, COLUMNS), expression)

    def test_parts_of_parts(self):
        expression = ("if", ("<", ("length", column("s")), column("n")), ("text", column("p")), ("nothing", "text"))
        self.assertEqual(kind_of(expression, COLUMNS), "text")


class PlainValueTest(unittest.TestCase):
    def test_cells_and_columns(self):
        cells = ((1, 2), None, "x", "", True, False)
        for (name, _), found in zip(COLUMNS, cells):
            self.assertEqual(evaluate(column(name), COLUMNS, cells), found)
        for found in ((3, 1), "a", True, False):
            self.assertEqual(evaluate(cell(found), (), ()), found)
        for kind in KINDS:
            self.assertIsNone(evaluate(("nothing", kind), (), ()))

    def test_arguments_stay_as_they_are(self):
        expression = ("if", ("in", column("n"), ((1, 2),)), ("join", column("s"), column("t")), column("s"))
        cells = ((1, 2), None, "x", "", True, False)
        before = copy.deepcopy((expression, COLUMNS, cells))
        self.assertEqual(evaluate(expression, COLUMNS, cells), "x")
        self.assertEqual((expression, COLUMNS, cells), before)


class NumberValueTest(unittest.TestCase):
    def test_one_number(self):
        for word, found in (("minus", (-5, 2)), ("abs", (5, 2)), ("floor", (2, 1)), ("ceil", (3, 1)),
                            ("round", (3, 1))):
            self.assertEqual(value(word, (5, 2)), found)
        for word, found in (("minus", (5, 2)), ("abs", (5, 2)), ("floor", (-3, 1)), ("ceil", (-2, 1)),
                            ("round", (-2, 1))):
            self.assertEqual(value(word, (-5, 2)), found)
        for word in ("minus", "abs", "floor", "ceil", "round"):
            self.assertEqual(value(word, (0, 1)), (0, 1))

    def test_two_numbers(self):
        numbers = [Fraction(above, below) for above in range(-4, 5) for below in (1, 2, 3)]
        for a, b in product(numbers, repeat=2):
            self.assertEqual(value("+", pair(a), pair(b)), pair(a + b))
            self.assertEqual(value("-", pair(a), pair(b)), pair(a - b))
            self.assertEqual(value("*", pair(a), pair(b)), pair(a * b))
            self.assertEqual(value("/", pair(a), pair(b)), pair(a / b) if b else None)

    def test_a_quotient_by_zero(self):
        self.assertIsNone(value("/", (1, 1), (0, 1)))
        self.assertIsNone(value("/", (0, 1), (0, 1)))
        self.assertEqual(value("/", (0, 1), (5, 1)), (0, 1))

    def test_results_that_are_no_numbers(self):
        self.assertEqual(value("+", whole(EDGE - 1), whole(1)), whole(EDGE))
        self.assertIsNone(value("+", whole(EDGE), whole(1)))
        self.assertIsNone(value("-", whole(-EDGE), whole(1)))
        self.assertEqual(value("*", whole(10 ** 6), whole(10 ** 5)), whole(10 ** 11))
        self.assertIsNone(value("*", whole(10 ** 6), whole(10 ** 6)))
        self.assertIsNone(value("/", whole(1), whole(EDGE + 1)))
        self.assertIsNone(value("/", (1, 10 ** 6), whole(10 ** 6)))
        self.assertIsNone(value("+", (1, 999983), (1, 999979 * 7)))

    def test_each_operation_by_itself(self):
        columns = (("n", "number"),)
        large = ("+", column("n"), cell(whole(1)))
        self.assertIsNone(evaluate(("-", large, cell(whole(1))), columns, (whole(EDGE),)))
        self.assertIs(evaluate(("missing", large), columns, (whole(EDGE),)), True)
        self.assertIs(evaluate(("missing", large), columns, (whole(1),)), False)

    def test_missing_parts(self):
        for word in ("minus", "abs", "floor", "ceil", "round"):
            self.assertIsNone(missing_parts(word, "number", (1, 1), 1)[False,])
        for word in ("+", "-", "*", "/"):
            found = missing_parts(word, "number", (1, 1), 2)
            self.assertIsNotNone(found.pop((True, True)))
            self.assertEqual(set(found.values()), {None})


class TextValueTest(unittest.TestCase):
    def test_join(self):
        self.assertEqual(value("join", "ab", "c"), "abc")
        self.assertEqual(value("join", "", ""), "")
        self.assertEqual(value("join", "a", ""), "a")

    def test_texts_that_grow_too_long(self):
        self.assertEqual(value("join", "a" * 25, "b" * 15), "a" * 25 + "b" * 15)
        self.assertIsNone(value("join", "a" * 25, "b" * 16))
        self.assertIsNone(value("join", "a" * 40, "b"))
        columns = (("s", "text"),)
        expression = ("length", ("join", column("s"), column("s")))
        self.assertEqual(evaluate(expression, columns, ("a" * 20,)), whole(40))
        self.assertIsNone(evaluate(expression, columns, ("a" * 21,)))

    def test_length(self):
        self.assertEqual(value("length", ""), (0, 1))
        self.assertEqual(value("length", "a b"), (3, 1))
        self.assertEqual(value("length", "x" * 40), (40, 1))

    def test_text(self):
        for found, text in (((1, 2), "0.5"), ((-22, 7), "-22/7"), (True, "true"), (False, "false"), ("a", "a"),
                            ("", "")):
            self.assertEqual(value("text", found), text)

    def test_the_text_of_a_number_can_be_too_long(self):
        self.assertEqual(len(value("text", (1, 2 ** 38))), 40)
        self.assertIsNone(value("text", (-1, 2 ** 38)))
        self.assertIsNone(value("text", (1, 2 ** 39)))

    def test_missing_parts(self):
        for word in ("length", "text"):
            self.assertIsNone(missing_parts(word, "text", "a", 1)[False,])
        for kind in KINDS:
            self.assertIsNone(evaluate(("text", column("c")), (("c", kind),), (None,)))
        self.assertEqual(missing_parts("join", "text", "a", 2),
                         {(False, False): None, (False, True): None, (True, False): None, (True, True): "aa"})


class ComparisonValueTest(unittest.TestCase):
    ascending = (((-1, 1), (1, 3), (1, 2)), ("", "a", "ab", "b"), (False, True))

    def test_comparisons(self):
        for cells in self.ascending:
            for (i, a), (j, b) in product(enumerate(cells), repeat=2):
                expected = {"=": i == j, "<>": i != j, "<": i < j, "<=": i <= j, ">": i > j, ">=": i >= j}
                for word, found in expected.items():
                    self.assertIs(value(word, a, b), found, (word, a, b))

    def test_least_and_greatest(self):
        for cells in self.ascending:
            for (i, a), (j, b) in product(enumerate(cells), repeat=2):
                self.assertEqual(value("least", a, b), cells[min(i, j)])
                self.assertEqual(value("greatest", a, b), cells[max(i, j)])

    def test_listed_cells(self):
        columns = (("c", "number"),)
        expression = ("in", column("c"), ((1, 1), (1, 2)))
        for found, expected in (((1, 1), True), ((1, 2), True), ((2, 1), False), (None, None)):
            self.assertIs(evaluate(expression, columns, (found,)), expected)
        self.assertIs(evaluate(("in", cell("a"), ("A", "b")), (), ()), False)
        self.assertIs(evaluate(("in", cell("b"), ("A", "b")), (), ()), True)
        self.assertIs(evaluate(("in", cell(False), (True,)), (), ()), False)

    def test_missing_parts(self):
        for word, (kind, present) in product(COMPARISONS + ("least", "greatest"),
                                             (("number", (1, 1)), ("text", "a"), ("boolean", True))):
            found = missing_parts(word, kind, present, 2)
            self.assertIsNotNone(found.pop((True, True)))
            self.assertEqual(set(found.values()), {None})

    def test_whether_a_part_is_missing(self):
        for kind, present in (("number", (0, 1)), ("text", ""), ("boolean", False)):
            self.assertIs(evaluate(("missing", column("c")), (("c", kind),), (present,)), False)
            self.assertIs(evaluate(("missing", column("c")), (("c", kind),), (None,)), True)


class TruthValueTest(unittest.TestCase):
    def check(self, word, first, second, expected):
        self.assertIs(evaluate((word, column("p"), column("q")), (("p", "boolean"), ("q", "boolean")),
                               (first, second)), expected, (word, first, second))

    def test_not(self):
        self.assertIs(value("not", True), False)
        self.assertIs(value("not", False), True)
        self.assertIsNone(evaluate(("not", ("nothing", "boolean")), (), ()))

    def test_and(self):
        for first, second, expected in ((True, True, True), (True, False, False), (False, False, False),
                                        (True, None, None), (False, None, False), (None, None, None)):
            self.check("and", first, second, expected)
            self.check("and", second, first, expected)

    def test_or(self):
        for first, second, expected in ((True, True, True), (True, False, True), (False, False, False),
                                        (True, None, True), (False, None, None), (None, None, None)):
            self.check("or", first, second, expected)
            self.check("or", second, first, expected)

    def test_choices(self):
        for test, expected in ((True, "a"), (False, "b"), (None, "b")):
            self.assertEqual(evaluate(("if", column("p"), cell("a"), cell("b")), (("p", "boolean"),), (test,)),
                             expected)

    def test_a_part_that_is_not_chosen(self):
        missing, there = ("nothing", "number"), cell((1, 1))
        by_zero = ("/", there, cell((0, 1)))
        for other in (missing, by_zero):
            self.assertEqual(evaluate(("if", cell(True), there, other), (), ()), (1, 1))
            self.assertEqual(evaluate(("if", cell(False), other, there), (), ()), (1, 1))
            self.assertEqual(evaluate(("if", ("nothing", "boolean"), other, there), (), ()), (1, 1))
            self.assertIsNone(evaluate(("if", cell(True), other, there), (), ()))
            self.assertIsNone(evaluate(("if", cell(False), there, other), (), ()))


if __name__ == "__main__":
    unittest.main()
