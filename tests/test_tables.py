"""Points 140 and 141."""

import unittest

from chartspec.tables import data_table


class DataTableTest(unittest.TestCase):
    def test_the_example(self):
        self.assertEqual(data_table((("name", "text"),), ((2, ("a",)), (5, (None,)))),
                         ((("name", "text"),), ((((2, 1),), ("a",), (2,)), (((5, 1),), (None,), (5,)))))

    def test_no_rows(self):
        columns = (("a", "number"), ("b", "boolean"))
        self.assertEqual(data_table(columns, ()), (columns, ()))

    def test_cells_and_columns_stay_as_they_are(self):
        columns = (("a", "number"), ("b", "boolean"), ("c", "text"))
        rows = ((1, ((1, 2), True, "x")), (40, (None, None, None)), (9999, ((-3, 1), False, "")))
        found = data_table(columns, rows)
        self.assertEqual(found[0], columns)
        self.assertEqual([cells for _, cells, _ in found[1]], [cells for _, cells in rows])
        self.assertEqual([key for key, _, _ in found[1]], [((1, 1),), ((40, 1),), ((9999, 1),)])
        self.assertEqual([sources for _, _, sources in found[1]], [(1,), (40,), (9999,)])

    def test_forty_rows(self):
        rows = tuple((number, ((number, 1),)) for number in range(1, 41))
        found = data_table((("a", "number"),), rows)[1]
        self.assertEqual(found, tuple((((n, 1),), ((n, 1),), (n,)) for n in range(1, 41)))


if __name__ == "__main__":
    unittest.main()
