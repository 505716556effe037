"""Point 301, with points 183 and 244."""

import copy
import unittest
from random import Random

from samples import (PLAIN, SALES, SALES_SPEC, band_scale, chart_of, column, constant, layer_of, linear_scale,
                     numbered, some_chart, view_of, whole)

from chartspec.channels import can_read, shown_channels
from chartspec.drawing import layer_tables
from chartspec.errors import TooManyCategories
from chartspec.guides import frame_of
from chartspec.reports import report_rows, reported
from chartspec.rulers import pixel, report_at
from chartspec.series import layer_marks
from chartspec.tables import data_table

COLUMNS = (("n", "number"), ("m", "number"), ("s", "text"))
TABLES = (("t", COLUMNS),)
N, M, S = (column(name) for name in "nms")
AXIS = ("", False, PLAIN)
SHORT = linear_scale("from", (0, 1), (4, 1))
COLOR = ("plain", ("of", ("u", "v")), None)


def span(low, high, closed=False):
    """A span, where pairs stand for themselves and integers for numbers."""
    return tuple((end, 1) if isinstance(end, int) else end for end in (low, high)) + (closed,)


def rows_of(*rows):
    return numbered(*[whole(*row[:2]) + tuple(row[2:]) for row in rows])


def report(layer, *rows, **view):
    """The report of the only layer of a view with four pixels each way."""
    found = {"size": (4, 4), "x": SHORT, "y": SHORT, "color": COLOR, **view}
    return reported(chart_of(view_of(layer, **found), tables=TABLES), (rows_of(*rows),))[0][0]


# What is reported of the offsets 0 to 4 on SHORT, which has a pixel for each integer.
ENDS = (span(0, (1, 2)), span((1, 2), (3, 2)), span((3, 2), (5, 2)), span((5, 2), (7, 2)), span((7, 2), 4, True))


class ExampleTest(unittest.TestCase):
    def test_the_bar_chart(self):
        self.assertEqual(reported(SALES_SPEC, (SALES,)), ((
            (("north", ((39, 40), (41, 40), False)), ("south", ((119, 40), (3, 1), True))),),))


class MarkTest(unittest.TestCase):
    def test_points(self):
        layer = layer_of("point", ("y", M), ("color", S), ("x", N))
        self.assertEqual(report(layer, (1, 0, "u"), (None, 1, "u"), (2, 3, "v"), (2, 3, "w"), (5, 3, "u")),
                         ((ENDS[1], ENDS[0], "u"), (ENDS[2], ENDS[3], "v")))

    def test_the_last_pixel(self):
        layer = layer_of("point", ("x", N), ("y", constant((1, 1))))
        self.assertEqual(report(layer, (4, 0, "u")), ((ENDS[4],),))

    def test_reversed_rulers(self):
        layer = layer_of("point", ("x", N), ("y", M))
        backwards = linear_scale("from", (0, 1), (4, 1), backwards=True)
        self.assertEqual(report(layer, (4, 0, "u"), (1, 2, "u"), x=backwards, y=backwards),
                         ((ENDS[4], ENDS[0]), (ENDS[1], ENDS[2])))

    def test_a_fitted_domain(self):
        layer = layer_of("point", ("x", N), ("y", constant((1, 1))))
        self.assertEqual(report(layer, (0, 0, "u"), (7, 0, "u"), x=linear_scale("fit", axis=AXIS, ticks=2), size=(20, 4)),
                         ((span(0, (1, 4)),), (span((27, 4), (29, 4)),)))

    def test_texts(self):
        layer = layer_of("text", ("x", N), ("y", M), ("text", S), ("color", S))
        self.assertEqual(report(layer, (1, 2, "u"), (1, 2, None)), ((ENDS[1], ENDS[2], "u", "u"),))
        layer = layer_of("text", ("x", N), ("y", N), ("text", M))
        self.assertEqual(report(layer, (1, 2, "u"), (1, None, None)), ((ENDS[1], ENDS[1], (2, 1)),))

    def test_rules(self):
        self.assertEqual(report(layer_of("rule", ("x", N)), (1, 2, "u"), (4, 2, "u")), ((ENDS[1],), (ENDS[4],)))
        self.assertEqual(report(layer_of("rule", ("y", N)), (1, 2, "u")), ((ENDS[1],),))
        layer = layer_of("rule", ("y2", N), ("x2", M), ("y", M), ("x", N))
        self.assertEqual(report(layer, (1, 2, "u"), (1, 5, "u")), ((ENDS[1], ENDS[2], ENDS[2], ENDS[1]),))
        layer = layer_of("rule", ("x2", M), ("y", constant((1, 1))), ("x", constant((1, 1))))
        self.assertEqual(report(layer, (1, 2, "u")), ((ENDS[2],),))

    def test_bars(self):
        bands = band_scale("of", ("v", "u"))
        self.assertEqual(report(layer_of("bar", ("x", S), ("y", N)), (3, 0, "u"), (0, 0, "v"), x=bands),
                         (("u", ENDS[3]), ("v", ENDS[0])))
        self.assertEqual(report(layer_of("bar", ("y", S), ("x", N), ("x2", M)), (3, 1, "u"), (1, 3, "v"), y=bands),
                         ((ENDS[3], ENDS[1], "u"),))
        layer = layer_of("bar", ("x", N), ("x2", M), ("y", N), ("y2", constant((0, 1))))
        self.assertEqual(report(layer, (1, 4, "u"), (2, 2, "u")), ((ENDS[1], ENDS[4], ENDS[1]),
                                                                  (ENDS[2], ENDS[2], ENDS[2])))

    def test_lines_in_several_series(self):
        layer = layer_of("line", ("x", N), ("y", M), ("color", S))
        self.assertEqual(report(layer, (1, None, "u"), (0, 1, "v"), (1, 2, "u"), (2, 3, "v"), (9, 1, "u"), (3, 3, "u")), (
            (ENDS[0], ENDS[1], "v", 0), (ENDS[2], ENDS[3], "v", 0),
            (ENDS[1], ENDS[2], "u", 1), (ENDS[3], ENDS[3], "u", 1)))

    def test_lines_with_detail(self):
        layer = layer_of("line", ("x", N), ("y", M), ("detail", S))
        self.assertEqual(report(layer, (1, 1, "a"), (0, 1, None), (2, 2, "a")), (
            (ENDS[1], ENDS[1], None, 0), (ENDS[2], ENDS[2], None, 0), (ENDS[0], ENDS[1], None, 1)))

    def test_lines_with_constants(self):
        layer = layer_of("line", ("x", constant((1, 1))), ("y", constant((2, 1))))
        self.assertEqual(report(layer, (1, 1, "a"), (0, 1, None)), ((0,), (0,)))

    def test_channels_that_cannot_be_read(self):
        layer = layer_of("point", ("x", N), ("y", M), ("color", S))
        clamped = linear_scale("from", (0, 1), (4, 1), clamped=True, axis=AXIS)
        self.assertEqual(report(layer, (1, 2, "u"), x=clamped), ((None, ENDS[2], "u"),))
        self.assertEqual(report(layer, (1, 2, "u"), y=linear_scale("zero")), ((ENDS[1], None, "u"),))
        self.assertEqual(report(layer, (1, 2, "u"), color=("plain", ("fit",), None)), ((ENDS[1], ENDS[2], None),))

    def test_no_rows_and_no_shown_channels(self):
        layer = layer_of("point", ("x", constant((1, 1))), ("y", constant((1, 1))))
        self.assertEqual(report(layer), ())
        self.assertEqual(report(layer, (1, 1, "a"), (1, 1, "b")), ((), ()))


class ChartTest(unittest.TestCase):
    def test_all_layers_of_all_views(self):
        rule = layer_of("rule", ("x", N))
        small = {"size": (4, 4), "x": SHORT, "y": SHORT}
        spec = chart_of(view_of(name="a", **small), view_of(rule, layer_of("rule", ("y", M)), name="b", **small),
                        view_of(rule, name="c", size=(4, 4), x=linear_scale("fit")), tables=TABLES)
        self.assertEqual(reported(spec, (rows_of((1, 2, "u"), (3, None, "u")),)), (
            (), (((ENDS[1],), (ENDS[3],)), ((ENDS[2],),)), (((None,), (None,)),)))

    def test_too_many_categories(self):
        spec = chart_of(view_of(layer_of("rule", ("x", S)), size=(4, 4), x=band_scale("fit")), tables=TABLES)
        with self.assertRaises(TooManyCategories) as caught:
            reported(spec, (rows_of(*[(1, 1, letter) for letter in "abcde"]),))
        self.assertEqual(caught.exception.count, 5)

    def test_any_frame_and_any_table(self):
        layer = layer_of("point", ("x", N), ("y", S), ("color", S))
        spec = chart_of(view_of(name="a"), view_of(layer, layer, x=SHORT, y=band_scale("of", ("a",)), color=COLOR, name="b"),
                        tables=TABLES)
        frame = (1, ("linear", whole(0, 8), 4, False, False), ("band", ("k", "u"), 10, False, False), "plain", ("k",))
        table = data_table(COLUMNS, rows_of((8, 0, "k"), (2, 1, "u")))
        self.assertEqual(report_rows(spec, 1, 1, frame, table), ((span(7, 8, True), "k", "k"),))

    def test_drawn_rows_alone_with_the_reports_of_their_pixels(self):
        random = Random(301)
        for _ in range(200):
            spec, data = some_chart(random)
            found = reported(spec, data)
            for number, view in enumerate(spec[2]):
                tables = layer_tables(spec, data, number)
                frame = frame_of(spec, number, tables)[0]
                for at, layer in enumerate(view[6]):
                    self.assertEqual(found[number][at], report_rows(spec, number, at, frame, tables[at]))
                    if layer[2] != "line":
                        self.assertEqual(found[number][at], self.expected(spec, number, at, frame, tables[at]))

    def expected(self, spec, number, at, frame, table):
        """The report of a layer without lines: row by row, if it is drawn alone."""
        layer = spec[2][number][6][at]
        columns, rows = table
        names = [name for name, _ in columns]
        found = []
        for row in rows:
            if layer_marks(frame, at, layer, (columns, (row,))):
                places = []
                for channel in shown_channels(layer):
                    cell = row[1][names.index(dict(layer[3])[channel][1])]
                    if channel in ("x", "x2", "y", "y2"):
                        ruler = frame[1] if channel[0] == "x" else frame[2]
                        cell = report_at(ruler, pixel(ruler, cell))
                    places.append(cell if can_read(spec, number, channel) else None)
                found.append(tuple(places))
        return tuple(found)

    def test_arguments_stay_as_they_are(self):
        spec, data = some_chart(Random(5))
        before = copy.deepcopy((spec, data))
        reported(spec, data)
        self.assertEqual((spec, data), before)


if __name__ == "__main__":
    unittest.main()
