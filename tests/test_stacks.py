"""Points 164 and 166, and what of point 167 speaks of them."""

import copy
import unittest

from chartspec.stacks import stacked

EDGE = 10 ** 12 - 1
COLUMNS = (("v", "number"), ("g", "text"), ("k", "number"))


def rows_of(*cells):
    return tuple((((number, 1),), row, (number,)) for number, row in enumerate(cells, 1))


def number(found):
    return found if found is None or isinstance(found, tuple) else (found, 1)


class StackedTest(unittest.TestCase):
    def check(self, cells, over, keys, expected):
        """The pairs (low, high) of rows with the given cells, where integers stand for numbers."""
        rows = rows_of(*[(number(v), g, number(k)) for v, g, k in cells])
        table = (COLUMNS, rows)
        before = copy.deepcopy(table)
        found = stacked(table, "v", over, keys, "low", "high")
        self.assertEqual(table, before)
        self.assertEqual(found[0], COLUMNS + (("low", "number"), ("high", "number")))
        self.assertEqual(found[1], tuple((key, old + (number(low), number(high)), sources)
                                         for (key, old, sources), (low, high) in zip(rows, expected)))

    def test_the_example(self):
        self.check(((1, "", None), (-2, "", None), (None, "", None), (3, "", None)), (), (),
                   ((0, 1), (-2, 0), (1, 1), (1, 4)))

    def test_no_rows(self):
        self.check((), (), (), ())
        self.check((), ("g",), (("k", False),), ())

    def test_negative_numbers_have_a_side_of_their_own(self):
        self.check(((-1, "", None), (2, "", None), (-3, "", None), (0, "", None), (4, "", None), (-1, "", None)),
                   (), (), ((-1, 0), (0, 2), (-4, -1), (2, 2), (2, 6), (-5, -4)))

    def test_a_missing_cell_and_zero_are_on_the_positive_side(self):
        self.check(((-2, "", None), (None, "", None), (0, "", None)), (), (), ((-2, 0), (0, 0), (0, 0)))
        self.check(((5, "", None), (None, "", None)), (), (), ((0, 5), (5, 5)))

    def test_partitions(self):
        self.check(((1, "a", None), (2, "b", None), (3, "a", None), (4, None, None), (-5, "a", None),
                    (6, None, None)),
                   ("g",), (), ((0, 1), (0, 2), (1, 4), (0, 4), (-5, 0), (4, 10)))

    def test_partitions_by_several_columns(self):
        self.check(((1, "a", 1), (2, "a", 2), (3, "a", 1), (4, "b", 1), (5, "a", None), (6, "a", None)),
                   ("g", "k"), (), ((0, 1), (0, 2), (1, 4), (0, 4), (0, 5), (5, 11)))

    def test_the_order_of_a_partition(self):
        cells = ((1, "a", 3), (2, "a", 1), (4, "a", 2), (8, "a", None))
        self.check(cells, (), (("k", False),), ((6, 7), (0, 2), (2, 6), (7, 15)))
        self.check(cells, (), (("k", True),), ((0, 1), (5, 7), (1, 5), (7, 15)))
        self.check(cells, (), (), ((0, 1), (1, 3), (3, 7), (7, 15)))

    def test_the_order_within_each_partition(self):
        self.check(((1, "a", 2), (2, "b", 2), (4, "a", 1), (8, "b", 1)), ("g",), (("k", False),),
                   ((4, 5), (8, 10), (0, 4), (0, 8)))

    def test_rows_that_no_key_decides_stay_in_their_order(self):
        self.check(((1, "b", 1), (2, "a", 1), (4, "a", 1)), (), (("k", True), ("g", False)),
                   ((6, 7), (0, 2), (2, 6)))

    def test_the_column_itself_as_a_key_and_in_over(self):
        self.check(((3, "", None), (1, "", None), (2, "", None)), (), (("v", False),), ((3, 6), (0, 1), (1, 3)))
        self.check(((3, "", None), (1, "", None), (3, "", None)), ("v",), (), ((0, 3), (0, 1), (3, 6)))

    def test_fractions(self):
        self.check((((1, 2), "", None), ((1, 3), "", None), ((-1, 4), "", None)), (), (),
                   ((0, (1, 2)), ((1, 2), (5, 6)), ((-1, 4), 0)))

    def test_numbers_that_are_none(self):
        self.check(((EDGE, "", None), (1, "", None), (2, "", None)), (), (),
                   ((0, EDGE), (EDGE, None), (None, None)))
        self.check(((-EDGE, "", None), (-1, "", None), (5, "", None)), (), (),
                   ((-EDGE, 0), (None, -EDGE), (0, 5)))

    def test_sums_on_the_way_are_exact(self):
        small, large = (1, 999983), (1, 999979 * 7)
        rest = (999982, 999983)
        self.check(((small, "", None), (large, "", None), (rest, "", None)), (), (),
                   ((0, small), (small, None), (None, (999979 * 7 + 1, 999979 * 7))))

    def test_keys_and_sources_stay(self):
        rows = ((("x", True), ((1, 1), "a", None), (3, 9)), (("y", None), ((2, 1), "a", None), ()))
        found = stacked((COLUMNS, rows), "v", (), (), "l", "h")
        self.assertEqual([(key, sources) for key, _, sources in found[1]], [(("x", True), (3, 9)), (("y", None), ())])


if __name__ == "__main__":
    unittest.main()
