"""Points 241 and 244, with the examples of point 245."""

import copy
import unittest

from samples import BAR, SALES, SALES_SPEC, column, constant, layer_of, numbered, whole

from chartspec.guides import frame_of
from chartspec.drawing import layer_tables
from chartspec.marks import row_mark
from chartspec.series import layer_marks, series_of
from chartspec.tables import data_table

AXIS = ("linear", whole(0, 3), 30, False, False)
COLUMNS = (("a", "number"), ("b", "number"), ("c", "text"), ("d", "boolean"))
A, B, C, D = (column(name) for name in "abcd")
FRAME = (0, AXIS, AXIS, "plain", ("u", "v"))


def table_of(*rows):
    """The table of rows (a, b, c, d), where integers stand for numbers."""
    return data_table(COLUMNS, numbered(*[whole(*row[:2]) + tuple(row[2:]) for row in rows]))


def lines_of(table, *channels):
    """The keys, the points and the strokes of the lines of a layer."""
    found = layer_marks(FRAME, 0, layer_of("line", ("x", A), ("y", B), *channels, paint="#123456"), table)
    return [(item[2], item[4], item[7]) for item in found]


class ExampleTest(unittest.TestCase):
    def test_the_example_of_the_interface(self):
        axis = ("linear", ((0, 1), (3, 1)), 30, False, False)
        frame = (0, axis, axis, "plain", ())
        layer = ("t", (), "line", (("x", ("column", "a")), ("y", ("column", "b"))), "#000000", None)
        rows = ((((1, 1),), ((0, 1), (1, 1)), (1,)), (((2, 1),), ((1, 1), None), (2,)),
                (((3, 1),), ((3, 1), (0, 1)), (3,)))
        self.assertEqual(
            layer_marks(frame, 0, layer, ((("a", "number"), ("b", "number")), rows)),
            ((0, "mark 0", "-,-", "polyline", (0, 20, 30, 30), "", None, "#000000", (0, 0, 31, 31)),))

    def test_the_line_of_point_245(self):
        table = table_of((0, 1, None, None), (1, 2, None, None), (2, None, None, None), (3, 0, None, None))
        self.assertEqual(lines_of(table), [("-,-", (0, 20, 10, 10, 30, 30), "#123456")])

    def test_the_bar_of_point_245(self):
        tables = layer_tables(SALES_SPEC, (SALES,), 0)
        frame = frame_of(SALES_SPEC, 0, tables)[0]
        self.assertEqual(layer_marks(frame, 0, BAR, tables[0])[0],
                         (0, "mark 0", "1", "rectangle", (5, 40, 40, 20), "", "#3a6ea8", None, (0, 0, 101, 61)))


class SeriesTest(unittest.TestCase):
    row = (whole(1), whole(1, 2) + ("u", True), (1,))

    def series(self, *channels):
        return series_of(layer_of("line", ("x", A), ("y", B), *channels), COLUMNS, self.row)

    def test_the_cells_of_color_and_detail(self):
        self.assertEqual(self.series(), (None, None))
        self.assertEqual(self.series(("color", C)), ("u", None))
        self.assertEqual(self.series(("detail", D)), (None, True))
        self.assertEqual(self.series(("detail", B), ("color", C)), ("u", (2, 1)))
        self.assertEqual(self.series(("detail", constant((1, 2))), ("color", constant("v"))), ("v", (1, 2)))
        self.assertEqual(self.series(("detail", C), ("color", C)), ("u", "u"))


class RowMarkTest(unittest.TestCase):
    def test_row_by_row(self):
        table = table_of((0, 1, "u", None), (None, 2, "u", None), (3, 1, "w", None), (2, 2, "v", None))
        layer = layer_of("point", ("x", A), ("y", B), ("color", C))
        marks = layer_marks(FRAME, 2, layer, table)
        self.assertEqual(marks, tuple(row_mark(FRAME, 2, layer, COLUMNS, table[1][at]) for at in (0, 3)))
        self.assertEqual([item[1:3] for item in marks], [("mark 2", "1"), ("mark 2", "4")])

    def test_a_table_without_rows(self):
        for mark in ("point", "line"):
            self.assertEqual(layer_marks(FRAME, 0, layer_of(mark, ("x", A), ("y", B)), table_of()), ())


class LineTest(unittest.TestCase):
    def test_what_a_primitive_has(self):
        frame = (2, ("linear", whole(0, 3), 9, False, False), AXIS, "plain", ())
        layer = layer_of("line", ("x", A), ("y", B), ("detail", C), paint="#123456")
        self.assertEqual(layer_marks(frame, 3, layer, table_of((1, 2, "x", None), (3, 1, "x", None))),
                         ((2, "mark 3", '-,"x"', "polyline", (3, 10, 9, 20), "", None, "#123456", (0, 0, 10, 31)),))

    def test_a_line_with_one_point(self):
        self.assertEqual(lines_of(table_of((1, 1, None, None))), [("-,-", (10, 20), "#123456")])
        self.assertEqual(lines_of(table_of((1, 1, None, None), (4, 1, None, None))), [("-,-", (10, 20), "#123456")])

    def test_a_line_without_a_point(self):
        self.assertEqual(lines_of(table_of((1, None, None, None), (4, 1, None, None))), [])

    def test_rows_without_a_point_are_left_out(self):
        table = table_of((0, 0, "u", None), (1, None, "u", None), (None, 1, "u", None), (-1, 1, "u", None),
                         (1, 4, "u", None), (2, 1, "u", None))
        self.assertEqual(lines_of(table), [("-,-", (0, 30, 20, 20), "#123456")])

    def test_the_points_in_the_order_of_the_rows(self):
        table = table_of((3, 0, None, None), (1, 1, None, None), (1, 1, None, None), (2, 2, None, None))
        self.assertEqual(lines_of(table), [("-,-", (30, 30, 10, 20, 10, 20, 20, 10), "#123456")])

    def test_series_by_color_and_detail(self):
        table = table_of((0, 0, "v", True), (1, 1, "u", True), (2, 2, "v", False), (3, 3, "v", True))
        self.assertEqual(lines_of(table, ("color", C)), [
            ('"v",-', (0, 30, 20, 10, 30, 0), "#e5832f"), ('"u",-', (10, 20), "#3a6ea8")])
        self.assertEqual(lines_of(table, ("detail", D)), [
            ("-,true", (0, 30, 10, 20, 30, 0), "#123456"), ("-,false", (20, 10), "#123456")])
        self.assertEqual(lines_of(table, ("detail", D), ("color", C)), [
            ('"v",true', (0, 30, 30, 0), "#e5832f"), ('"u",true', (10, 20), "#3a6ea8"),
            ('"v",false', (20, 10), "#e5832f")])

    def test_the_order_of_the_first_rows_that_have_a_point(self):
        table = table_of((None, 0, "v", True), (1, 1, "u", True), (2, 2, "v", True))
        self.assertEqual([line[0] for line in lines_of(table, ("color", C))], ['"u",-', '"v",-'])
        self.assertEqual([line[0] for line in lines_of(table, ("detail", C))], ['-,"u"', '-,"v"'])

    def test_missing_cells_in_color_and_detail(self):
        table = table_of((0, 0, None, None), (1, 1, "w", True), (2, 2, "u", None), (3, 3, "u", True), (0, 1, "u", None))
        # Rows without a color have no point; a missing cell in detail is one like any other.
        self.assertEqual(lines_of(table, ("color", C), ("detail", D)), [
            ('"u",-', (20, 10, 0, 20), "#3a6ea8"), ('"u",true', (30, 0), "#3a6ea8")])

    def test_constants(self):
        table = table_of((0, 0, "u", True), (1, 1, "v", False))
        self.assertEqual(lines_of(table, ("color", constant("v")), ("detail", constant(False))),
                         [('"v",false', (0, 30, 10, 20), "#e5832f")])
        self.assertEqual(lines_of(table, ("color", constant("w"))), [])

    def test_arguments_stay_as_they_are(self):
        layer, table = layer_of("line", ("x", A), ("y", B), ("color", C)), table_of((0, 0, "u", True), (1, 1, "v", False))
        before = copy.deepcopy((FRAME, layer, table))
        layer_marks(FRAME, 0, layer, table)
        self.assertEqual((FRAME, layer, table), before)


if __name__ == "__main__":
    unittest.main()
