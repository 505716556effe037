"""Points 160, 165, 166 and 167."""

import copy
import unittest
from fractions import Fraction

from samples import pair

from chartspec.errors import ChartError, DuplicateName, UnknownName, WrongKind
from chartspec.transforms import columns_after, transformed

EDGE = 10 ** 12 - 1
COLUMNS = (("n", "number"), ("s", "text"), ("p", "boolean"), ("m", "number"))
N, S, P, M = (("column", name) for name, _ in COLUMNS)
UNKNOWN = ("column", "u")
COUNT = ("many", "count", None)


def rows_of(*cells):
    return tuple((((number, 1),), row, (number,)) for number, row in enumerate(cells, 1))


ROWS = rows_of(((1, 1), "b", True, None), ((-2, 1), "a", None, (5, 1)), (None, "b", False, (1, 2)),
               ((3, 1), None, True, (0, 1)))
TABLE = (COLUMNS, ROWS)


class ExampleTest(unittest.TestCase):
    columns = (("v", "number"),)
    rows = rows_of(((1, 1),), ((-2, 1),), (None,), ((3, 1),))

    def added(self, transform):
        columns, rows = transformed((self.columns, self.rows), transform)
        self.assertEqual(columns, columns_after(self.columns, transform))
        return [cells[1:] for _, cells, _ in rows]

    def test_the_stack(self):
        self.assertEqual(self.added(("stack", "v", (), (), "l", "h")),
                         [((0, 1), (1, 1)), ((-2, 1), (0, 1)), ((1, 1), (1, 1)), ((1, 1), (4, 1))])

    def test_the_bin(self):
        self.assertEqual(self.added(("bin", "v", (2, 1), "l", "h")),
                         [((0, 1), (2, 1)), ((-2, 1), (0, 1)), (None, None), ((2, 1), (4, 1))])

    def test_sum_mean_and_median(self):
        found = transformed((self.columns, self.rows), ("group", (), (("a", "sum", "v"), ("b", "mean", "v"),
                                                                      ("c", "median", "v"))))
        self.assertEqual(found[1], (((), ((2, 1), (2, 3), (1, 1)), (1, 2, 3, 4)),))

    def test_descending_order(self):
        found = transformed((self.columns, self.rows), ("sort", (("v", True),)))
        self.assertEqual([sources for _, _, sources in found[1]], [(4,), (1,), (2,), (3,)])

    def test_the_example_of_the_interface(self):
        rows = ((((1, 1),), ((1, 1),), (1,)), (((2, 1),), ((-2, 1),), (2,)), (((4, 1),), ((3, 1),), (4,)))
        self.assertEqual(transformed((self.columns, rows), ("group", (), (("s", "sum", "v"), ("m", "median", "v")))),
                         ((("s", "number"), ("m", "number")), (((), ((2, 1), (1, 1)), (1, 2, 4)),)))
        with self.assertRaises(DuplicateName) as caught:
            columns_after(self.columns, ("bin", "v", (2, 1), "l", "v"))
        self.assertEqual(caught.exception.name, "v")


class TransformedTest(unittest.TestCase):
    def check(self, transform, expected, table=TABLE):
        before = copy.deepcopy((table, transform))
        found = transformed(table, transform)
        self.assertEqual((table, transform), before)
        self.assertEqual(found[0], columns_after(table[0], transform))
        self.assertEqual(found[1], expected)

    def test_filter_keeps_rows_for_which_the_expression_is_true(self):
        self.check(("filter", P), (ROWS[0], ROWS[3]))
        self.check(("filter", ("not", P)), (ROWS[2],))
        self.check(("filter", (">", N, ("cell", (0, 1)))), (ROWS[0], ROWS[3]))
        self.check(("filter", ("missing", P)), (ROWS[1],))
        self.check(("filter", ("cell", False)), ())
        self.check(("filter", ("nothing", "boolean")), ())
        self.check(("filter", ("cell", True)), ROWS)

    def test_derive_adds_a_column(self):
        values = ((2, 1), (-4, 1), None, (6, 1))
        self.check(("derive", "twice", ("*", N, ("cell", (2, 1)))),
                   tuple((key, cells + (value,), sources) for (key, cells, sources), value in zip(ROWS, values)))
        self.assertEqual(columns_after(COLUMNS, ("derive", "x", ("text", N))), COLUMNS + (("x", "text"),))
        self.assertEqual(columns_after(COLUMNS, ("derive", "x", ("missing", N))), COLUMNS + (("x", "boolean"),))

    def test_derive_replaces_what_is_no_number(self):
        table = ((("n", "number"),), rows_of(((EDGE, 1),), ((1, 1),)))
        self.check(("derive", "x", ("+", ("column", "n"), ("column", "n"))),
                   ((((1, 1),), ((EDGE, 1), None), (1,)), (((2, 1),), ((1, 1), (2, 1)), (2,))), table)

    def test_sort_orders_rows(self):
        self.check(("sort", (("n", False),)), (ROWS[1], ROWS[0], ROWS[3], ROWS[2]))
        self.check(("sort", (("s", True), ("n", False))), (ROWS[0], ROWS[2], ROWS[1], ROWS[3]))
        self.check(("sort", ()), ROWS)

    def test_take_keeps_the_first_rows(self):
        self.check(("take", 0), ())
        self.check(("take", 1), ROWS[:1])
        self.check(("take", 3), ROWS[:3])
        self.check(("take", 4), ROWS)
        self.check(("take", 5), ROWS)
        self.check(("take", 40), ROWS)
        self.check(("take", 3), (), (COLUMNS, ()))

    def test_group_makes_rows_of_its_own(self):
        self.check(("group", ("s",), (COUNT, ("total", "sum", "n"))), (
            (("a",), ("a", (1, 1), (-2, 1)), (2,)),
            (("b",), ("b", (2, 1), (1, 1)), (1, 3)),
            ((None,), (None, (1, 1), (3, 1)), (4,))))

    def test_stack_adds_two_columns(self):
        # In the order of the keys the rows are 3, 4, 1, 2.
        spans = (((3, 1), (4, 1)), ((-2, 1), (0, 1)), ((0, 1), (0, 1)), ((0, 1), (3, 1)))
        self.check(("stack", "n", (), (("p", False), ("n", True)), "l", "h"),
                   tuple((key, cells + span, sources) for (key, cells, sources), span in zip(ROWS, spans)))

    def test_rows_keep_their_keys_and_sources(self):
        rows = ((("x", None), ((1, 1), "a", True, None), (3, 9)), ((True,), ((2, 1), "a", True, None), ()))
        for transform in (("filter", P), ("derive", "x", N), ("bin", "n", (1, 1), "l", "h"), ("sort", ()),
                          ("take", 2), ("stack", "n", (), (), "l", "h")):
            found = transformed((COLUMNS, rows), transform)[1]
            self.assertEqual([(key, sources) for key, _, sources in found], [(("x", None), (3, 9)), ((True,), ())])


class BinTest(unittest.TestCase):
    def check(self, number, width, low, high):
        table = ((("n", "number"),), rows_of((number,)))
        found = transformed(table, ("bin", "n", width, "low", "high"))
        self.assertEqual(found, ((("n", "number"), ("low", "number"), ("high", "number")),
                                 ((((1, 1),), (number, low, high), (1,)),)))

    def test_the_ends_of_a_bin(self):
        self.check((4, 1), (2, 1), (4, 1), (6, 1))
        self.check((599, 100), (2, 1), (4, 1), (6, 1))
        self.check((0, 1), (2, 1), (0, 1), (2, 1))

    def test_negative_numbers(self):
        self.check((-1, 100), (2, 1), (-2, 1), (0, 1))
        self.check((-2, 1), (2, 1), (-2, 1), (0, 1))
        self.check((-5, 2), (2, 1), (-4, 1), (-2, 1))

    def test_widths_that_are_no_integers(self):
        self.check((7, 10), (1, 4), (1, 2), (3, 4))
        self.check((-7, 10), (1, 3), (-1, 1), (-2, 3))
        for above in range(-20, 21):
            number, width = Fraction(above, 7), Fraction(3, 5)
            low = number // width * width
            self.check(pair(number), pair(width), pair(low), pair(low + width))

    def test_a_missing_cell(self):
        self.check(None, (2, 1), None, None)

    def test_ends_that_are_no_numbers(self):
        self.check((EDGE, 1), (1, 1), (EDGE, 1), None)
        self.check((-EDGE, 1), (10, 1), None, (-EDGE + 9, 1))
        self.check((1, 1), (EDGE, EDGE - 1), (0, 1), (EDGE, EDGE - 1))
        # The low end is no number, and still the high end is found from it exactly.
        self.check((EDGE - 1, 1), (EDGE, EDGE - 1), None, (EDGE, 1))


class RefusedTest(unittest.TestCase):
    def check(self, transform, error, name, columns=COLUMNS):
        with self.assertRaises(ChartError) as caught:
            columns_after(columns, transform)
        self.assertIs(type(caught.exception), error, transform)
        self.assertEqual(caught.exception.name, name, transform)

    def test_transforms_that_are_not_refused(self):
        for transform, expected in (
                (("filter", P), COLUMNS), (("sort", (("s", True),)), COLUMNS), (("sort", ()), COLUMNS),
                (("take", 0), COLUMNS),
                (("bin", "n", (1, 2), "n1", "n2"), COLUMNS + (("n1", "number"), ("n2", "number"))),
                (("stack", "n", ("s", "p"), (("n", False),), "l", "h"), COLUMNS + (("l", "number"), ("h", "number"))),
                (("group", ("s",), (COUNT,)), (("s", "text"), ("many", "number"))),
                (("group", (), (("n", "greatest", "s"),)), (("n", "text"),)),
                (("group", ("p",), (("n", "valid", "s"), ("s", "least", "p"))),
                 (("p", "boolean"), ("n", "number"), ("s", "boolean")))):
            self.assertEqual(columns_after(COLUMNS, transform), expected)

    def test_unknown_names(self):
        for transform in (("filter", UNKNOWN), ("derive", "x", ("text", UNKNOWN)), ("bin", "u", (1, 1), "l", "h"),
                          ("sort", (("u", False),)), ("group", ("u",), (COUNT,)),
                          ("group", (), (("x", "valid", "u"),)), ("stack", "u", (), (), "l", "h"),
                          ("stack", "n", ("u",), (), "l", "h"), ("stack", "n", (), (("u", True),), "l", "h")):
            self.check(transform, UnknownName, "u")

    def test_the_first_unknown_name(self):
        two = ("=", ("column", "y"), ("column", "x"))
        self.check(("filter", two), UnknownName, "y")
        self.check(("filter", ("and", P, two)), UnknownName, "y")
        self.check(("derive", "d", two), UnknownName, "y")
        self.check(("sort", (("n", False), ("z", True), ("y", False))), UnknownName, "z")
        self.check(("group", ("s", "z", "y"), (("a", "sum", "x"),)), UnknownName, "z")
        self.check(("group", ("s",), (COUNT, ("a", "sum", "x"), ("b", "sum", "w"))), UnknownName, "x")
        self.check(("stack", "z", ("y",), (("x", False),), "l", "h"), UnknownName, "z")
        self.check(("stack", "n", ("s", "y"), (("x", False),), "l", "h"), UnknownName, "y")
        self.check(("stack", "n", ("s",), (("s", False), ("x", False)), "l", "h"), UnknownName, "x")

    def test_new_names_are_not_mentioned(self):
        self.check(("derive", "d", ("column", "d")), UnknownName, "d")
        self.check(("bin", "l", (1, 1), "l", "h"), UnknownName, "l")

    def test_wrong_kinds(self):
        without = ("+", N, S)
        for transform in (("filter", N), ("filter", S), ("filter", ("text", P)), ("filter", ("not", ("not", without))),
                          ("filter", ("missing", without)), ("derive", "x", without), ("bin", "s", (1, 1), "l", "h"),
                          ("bin", "p", (1, 1), "l", "h"), ("stack", "s", (), (), "l", "h"),
                          ("stack", "p", ("n",), (), "l", "h")):
            self.check(transform, WrongKind, transform[0])
        for function in ("sum", "mean", "median"):
            for name in ("s", "p"):
                self.check(("group", (), (COUNT, ("x", function, name))), WrongKind, "group")
                self.check(("group", ("n",), (("y", "sum", "n"), ("x", function, name))), WrongKind, "group")

    def test_duplicate_names(self):
        self.check(("derive", "s", N), DuplicateName, "s")
        self.check(("bin", "n", (1, 1), "s", "h"), DuplicateName, "s")
        self.check(("bin", "n", (1, 1), "l", "p"), DuplicateName, "p")
        self.check(("bin", "n", (1, 1), "l", "l"), DuplicateName, "l")
        self.check(("bin", "n", (1, 1), "p", "s"), DuplicateName, "p")
        self.check(("stack", "n", (), (), "n", "h"), DuplicateName, "n")
        self.check(("stack", "n", (), (), "l", "m"), DuplicateName, "m")
        self.check(("stack", "n", (), (), "x", "x"), DuplicateName, "x")

    def test_duplicate_names_of_a_group(self):
        self.check(("group", ("s",), (("s", "count", None),)), DuplicateName, "s")
        self.check(("group", ("s", "n"), (COUNT, ("n", "sum", "n"), ("s", "least", "s"))), DuplicateName, "n")
        self.check(("group", (), (COUNT, COUNT)), DuplicateName, "many")
        self.check(("group", (), (("a", "count", None), ("b", "count", None), ("b", "sum", "n"),
                                  ("a", "sum", "n"))), DuplicateName, "b")

    def test_the_first_of_several_errors(self):
        self.check(("filter", ("+", S, UNKNOWN)), UnknownName, "u")
        self.check(("derive", "n", ("+", S, UNKNOWN)), UnknownName, "u")
        self.check(("derive", "n", ("+", S, N)), WrongKind, "derive")
        self.check(("bin", "s", (1, 1), "n", "n"), WrongKind, "bin")
        self.check(("stack", "s", ("u",), (), "n", "n"), UnknownName, "u")
        self.check(("stack", "s", ("p",), (), "n", "n"), WrongKind, "stack")
        self.check(("group", ("s",), (("s", "sum", "p"), ("x", "least", "u"))), UnknownName, "u")
        self.check(("group", ("s",), (("s", "sum", "p"),)), WrongKind, "group")

    def test_no_columns(self):
        self.check(("sort", (("n", False),)), UnknownName, "n", ())
        self.assertEqual(columns_after((), ("derive", "n", ("cell", "a"))), (("n", "text"),))


if __name__ == "__main__":
    unittest.main()
