"""Points 162, 163 and 166, and what of point 167 speaks of them."""

import copy
import unittest

from chartspec.groups import aggregate, grouped

EDGE = 10 ** 12 - 1
COLUMNS = (("n", "number"), ("s", "text"), ("p", "boolean"))
COUNT = ("many", "count", None)
FUNCTIONS = ("count", "valid", "sum", "mean", "median", "least", "greatest")


def whole(*numbers):
    return tuple(None if number is None else (number, 1) for number in numbers)


def rows_of(*cells):
    return tuple((((number, 1),), row, (number,)) for number, row in enumerate(cells, 1))


class AggregateTest(unittest.TestCase):
    def check(self, cells, *expected):
        """The values of all functions, in the order of FUNCTIONS."""
        self.assertEqual(tuple(aggregate(function, cells) for function in FUNCTIONS), expected)

    def test_the_example(self):
        self.check(whole(1, -2, None, 3), (4, 1), (3, 1), (2, 1), (2, 3), (1, 1), (-2, 1), (3, 1))

    def test_no_cells(self):
        self.check((), (0, 1), (0, 1), (0, 1), None, None, None, None)

    def test_missing_cells_alone(self):
        self.check((None, None), (2, 1), (0, 1), (0, 1), None, None, None, None)

    def test_one_number(self):
        self.check(((1, 3),), (1, 1), (1, 1), (1, 3), (1, 3), (1, 3), (1, 3), (1, 3))

    def test_equal_numbers_count_each_time(self):
        self.check(whole(4, 1, 4, 4), (4, 1), (4, 1), (13, 1), (13, 4), (4, 1), (1, 1), (4, 1))

    def test_the_median_of_an_odd_count(self):
        self.assertEqual(aggregate("median", whole(10, -1, 7)), (7, 1))
        self.assertEqual(aggregate("median", whole(5, None, 10, 3, None, 1, 4)), (4, 1))

    def test_the_median_of_an_even_count(self):
        self.assertEqual(aggregate("median", whole(1, 2)), (3, 2))
        self.assertEqual(aggregate("median", whole(9, 1, 100, 4)), (13, 2))
        self.assertEqual(aggregate("median", whole(2, 2, 2, 9, None)), (2, 1))
        self.assertEqual(aggregate("median", ((1, 2), (1, 3))), (5, 12))

    def test_texts_and_booleans(self):
        texts = ("b", None, "ab", "a", "B")
        self.assertEqual([aggregate(function, texts) for function in ("count", "valid", "least", "greatest")],
                         [(5, 1), (4, 1), "B", "b"])
        booleans = (True, None, False, True)
        self.assertEqual([aggregate(function, booleans) for function in ("count", "valid")], [(4, 1), (3, 1)])
        self.assertIs(aggregate("least", booleans), False)
        self.assertIs(aggregate("greatest", booleans), True)
        self.assertIs(aggregate("greatest", (None, False)), False)

    def test_a_count_of_any_cells(self):
        self.assertEqual(aggregate("count", ("a", None, (1, 2), True)), (4, 1))

    def test_values_that_are_no_numbers(self):
        self.assertEqual(aggregate("sum", whole(EDGE - 1, 1)), (EDGE, 1))
        self.assertIsNone(aggregate("sum", whole(EDGE, 1)))
        self.assertIsNone(aggregate("sum", whole(-EDGE, -EDGE)))
        self.assertIsNone(aggregate("sum", ((1, 999983), (1, 999979 * 7))))
        self.assertIsNone(aggregate("mean", ((1, EDGE), (1, EDGE - 1))))
        self.assertIsNone(aggregate("median", ((1, EDGE), (1, EDGE - 1))))

    def test_sums_on_the_way_are_exact(self):
        self.assertEqual(aggregate("sum", whole(EDGE, EDGE, -EDGE)), (EDGE, 1))
        self.assertEqual(aggregate("mean", whole(EDGE, EDGE, EDGE)), (EDGE, 1))
        self.assertEqual(aggregate("median", whole(EDGE, EDGE)), (EDGE, 1))
        self.assertEqual(aggregate("sum", ((1, 999983), (1, 999979 * 7), (-1, 999983))), (1, 999979 * 7))

    def test_the_mean_of_a_number_is_divided_exactly(self):
        self.assertEqual(aggregate("mean", whole(1, 1, 0, None)), (2, 3))


class GroupedTest(unittest.TestCase):
    cells = (((2, 1), "b", True), ((1, 1), "a", None), (None, "b", True), ((5, 1), None, False), ((4, 1), "a", True),
             ((6, 1), None, False))

    def check(self, columns, aggregates, expected):
        table = (COLUMNS, rows_of(*self.cells))
        before = copy.deepcopy(table)
        self.assertEqual(grouped(table, columns, aggregates)[1], expected)
        self.assertEqual(table, before)

    def test_one_column(self):
        self.check(("s",), (COUNT, ("total", "sum", "n")), (
            (("a",), ("a", (2, 1), (5, 1)), (2, 5)),
            (("b",), ("b", (2, 1), (2, 1)), (1, 3)),
            ((None,), (None, (2, 1), (11, 1)), (4, 6))))

    def test_a_missing_cell_is_a_cell_like_any_other(self):
        self.check(("p",), (COUNT,), (
            ((False,), (False, (2, 1)), (4, 6)),
            ((True,), (True, (3, 1)), (1, 3, 5)),
            ((None,), (None, (1, 1)), (2,))))

    def test_several_columns_are_compared_from_the_first_cell_on(self):
        self.check(("p", "s"), (COUNT,), (
            ((False, None), (False, None, (2, 1)), (4, 6)),
            ((True, "a"), (True, "a", (1, 1)), (5,)),
            ((True, "b"), (True, "b", (2, 1)), (1, 3)),
            ((None, "a"), (None, "a", (1, 1)), (2,))))
        self.check(("s", "p"), (COUNT,), (
            (("a", True), ("a", True, (1, 1)), (5,)),
            (("a", None), ("a", None, (1, 1)), (2,)),
            (("b", True), ("b", True, (2, 1)), (1, 3)),
            ((None, False), (None, False, (2, 1)), (4, 6))))

    def test_groups_of_numbers_are_in_the_order_of_cells(self):
        rows = rows_of(*[((number, 1), "", None) for number in (10, 9, -1, 10)])
        found = grouped((COLUMNS, rows), ("n",), (COUNT,))[1]
        self.assertEqual([key for key, _, _ in found], [((-1, 1),), ((9, 1),), ((10, 1),)])
        self.assertEqual([sources for _, _, sources in found], [(3,), (2,), (1, 4)])

    def test_no_columns(self):
        self.check((), (COUNT, ("low", "least", "n"), ("any", "valid", "s")),
                   (((), ((6, 1), (1, 1), (4, 1)), (1, 2, 3, 4, 5, 6)),))

    def test_no_rows(self):
        empty = (COLUMNS, ())
        self.assertEqual(grouped(empty, (), (COUNT, ("total", "sum", "n"), ("low", "least", "s")))[1],
                         (((), ((0, 1), (0, 1), None), ()),))
        self.assertEqual(grouped(empty, ("s",), (COUNT,))[1], ())

    def test_the_new_columns(self):
        aggregates = (("a", "greatest", "s"), ("b", "valid", "s"), ("c", "least", "p"), ("d", "mean", "n"))
        expected = (("p", "boolean"), ("n", "number"), ("a", "text"), ("b", "number"), ("c", "boolean"),
                    ("d", "number"))
        for rows in ((), rows_of(*self.cells)):
            self.assertEqual(grouped((COLUMNS, rows), ("p", "n"), aggregates)[0], expected)
        self.assertEqual(grouped((COLUMNS, ()), (), (COUNT, ("e", "median", "n"), ("f", "greatest", "n")))[0],
                         (("many", "number"), ("e", "number"), ("f", "number")))

    def test_sources_are_those_of_the_rows_in_their_order(self):
        rows = ((("x",), ((1, 1), "a", None), (7, 3)), (("y",), ((1, 1), "b", None), ()),
                (("z",), ((1, 1), "a", None), (5,)), (("u",), ((1, 1), "a", None), (1, 2)))
        self.assertEqual(grouped((COLUMNS, rows), ("s",), (COUNT,))[1], (
            (("a",), ("a", (3, 1)), (7, 3, 5, 1, 2)), (("b",), ("b", (1, 1)), ())))

    def test_true_and_the_number_one_are_different_groups_of_their_columns(self):
        rows = rows_of(((1, 1), "1", True), ((1, 1), "true", True))
        found = grouped((COLUMNS, rows), ("n", "p"), (COUNT,))[1]
        self.assertEqual(found, ((((1, 1), True), ((1, 1), True, (2, 1)), (1, 2)),))

    def test_values_that_are_no_numbers(self):
        rows = rows_of(((EDGE, 1), "a", None), ((1, 1), "a", None))
        found = grouped((COLUMNS, rows), (), (("t", "sum", "n"), ("m", "mean", "n")))[1]
        self.assertEqual(found, (((), (None, (5 * 10 ** 11, 1)), (1, 2)),))


if __name__ == "__main__":
    unittest.main()
