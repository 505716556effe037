"""Point 161, and what of point 167 speaks of it."""

import copy
import unittest
from functools import cmp_to_key
from random import Random

from chartspec.cells import compare_cells
from chartspec.orders import ordered

COLUMNS = (("n", "number"), ("s", "text"), ("p", "boolean"))


def rows_of(*cells):
    """Rows with these tuples of cells, numbered from 1."""
    return tuple((((number, 1),), row, (number,)) for number, row in enumerate(cells, 1))


def numbers_of(rows):
    return [sources[0] for _, _, sources in rows]


def order(cells, keys, columns=COLUMNS):
    """The numbers of the rows with these cells in the order of the keys."""
    return numbers_of(ordered(columns, rows_of(*cells), keys))


class ExampleTest(unittest.TestCase):
    def test_descending_order(self):
        self.assertEqual(order((((1, 1),), ((-2, 1),), (None,), ((3, 1),)), (("v", True),), (("v", "number"),)),
                         [4, 1, 2, 3])


class OneKeyTest(unittest.TestCase):
    def check(self, place, cells, ascending, descending):
        name = COLUMNS[place][0]
        rows = [tuple(found if at == place else None for at in range(3)) for found in cells]
        self.assertEqual(order(rows, ((name, False),)), ascending)
        self.assertEqual(order(rows, ((name, True),)), descending)

    def test_numbers(self):
        self.check(0, ((1, 2), (-3, 1), (1, 3), (10, 1), (0, 1)), [2, 5, 3, 1, 4], [4, 1, 3, 5, 2])

    def test_texts(self):
        self.check(1, ("b", "ab", "a", "", "B", "a "), [4, 5, 3, 6, 2, 1], [1, 2, 6, 3, 5, 4])

    def test_booleans(self):
        self.check(2, (True, False), [2, 1], [1, 2])

    def test_missing_cells_come_last_both_ways(self):
        self.check(0, (None, (2, 1), None, (1, 1), None), [4, 2, 1, 3, 5], [2, 4, 1, 3, 5])
        self.check(1, (None, "", "a"), [2, 3, 1], [3, 2, 1])
        self.check(2, (None, False, True), [2, 3, 1], [3, 2, 1])

    def test_equal_cells_stay_in_their_order_both_ways(self):
        self.check(0, ((1, 1), (0, 1), (1, 1), (0, 1)), [2, 4, 1, 3], [1, 3, 2, 4])
        self.check(1, ("a", "a", "a"), [1, 2, 3], [1, 2, 3])


class SeveralKeysTest(unittest.TestCase):
    cells = (((2, 1), "a", True), ((1, 1), "b", True), ((2, 1), "b", None), ((1, 1), "a", False), (None, "a", True),
             ((2, 1), None, False), ((1, 1), "b", False))

    def test_the_next_key_decides(self):
        self.assertEqual(order(self.cells, (("n", False), ("s", False))), [4, 2, 7, 1, 3, 6, 5])
        self.assertEqual(order(self.cells, (("n", True), ("s", False))), [1, 3, 6, 4, 2, 7, 5])
        self.assertEqual(order(self.cells, (("n", False), ("s", True))), [2, 7, 4, 3, 1, 6, 5])
        self.assertEqual(order(self.cells, (("s", False), ("n", False), ("p", False))), [4, 1, 5, 7, 2, 3, 6])

    def test_the_same_column_again_decides_nothing(self):
        self.assertEqual(order(self.cells, (("n", False), ("n", True))), [2, 4, 7, 1, 3, 6, 5])

    def test_no_keys_and_no_rows(self):
        self.assertEqual(order(self.cells, ()), [1, 2, 3, 4, 5, 6, 7])
        self.assertEqual(ordered(COLUMNS, (), (("n", False),)), ())

    def test_rows_stay_as_they_are(self):
        rows = rows_of(*self.cells)
        before = copy.deepcopy(rows)
        found = ordered(COLUMNS, rows, (("p", True),))
        self.assertEqual(rows, before)
        self.assertIsInstance(found, tuple)
        self.assertEqual(sorted(found, key=numbers_of_row), list(before))

    def test_many_rows(self):
        random = Random(161)
        choices = (((0, 1), (1, 2), None), ("", "a", None), (True, False, None))
        for _ in range(200):
            rows = rows_of(*[tuple(random.choice(found) for found in choices) for _ in range(random.randrange(12))])
            keys = tuple((random.choice("nsp"), random.random() < 0.5) for _ in range(random.randrange(5)))
            expected = rows
            for name, descending in reversed(keys):
                expected = in_order_of(expected, "nsp".index(name), descending)
            self.assertEqual(ordered(COLUMNS, rows, keys), tuple(expected))


def numbers_of_row(row):
    return row[2]


def in_order_of(rows, place, descending):
    """The rows in the order of one column, missing cells last, by Python's own sorting."""
    present = [row for row in rows if row[1][place] is not None]
    missing = [row for row in rows if row[1][place] is None]
    return sorted(present, key=cmp_to_key(lambda a, b: compare_cells(a[1][place], b[1][place])),
                  reverse=descending) + missing


if __name__ == "__main__":
    unittest.main()
