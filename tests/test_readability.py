"""Points 320 to 324."""

import copy
import unittest
from random import Random

from samples import (DOTS, LETTERS, PLAIN, SMALL_SPEC, band_scale, chart_of, column, constant, layer_of, linear_scale, nearby,
                     some_cell, some_chart, view_of, whole)

from chartspec.channels import can_read, shown_channels
from chartspec.checking import check_spec, last_columns
from chartspec.drawing import sketch
from chartspec.errors import ChartError, NotDecided
from chartspec.guides import frame_of
from chartspec.readability import alike, drawn_alike, full_report, single_sketch
from chartspec.reports import report_rows
from chartspec.scenes import keyless

COLUMNS = (("n", "number"), ("m", "number"), ("s", "text"), ("p", "boolean"), ("k", "number"))
TABLES = (("t", COLUMNS),)
N, M, S, P, K = (column(name) for name in "nmspk")
SHORT = linear_scale("from", (0, 1), (4, 1))
HIDDEN = linear_scale("fit")
AXIS = ("", False, PLAIN)


def spec_of(*layers, **view):
    found = {"size": (20, 20), "x": SHORT, "y": SHORT, **view}
    return chart_of(view_of(name="other"), view_of(*layers, **found), tables=TABLES)


def cells_of(n=None, m=None, s=None, p=None, k=None):
    return tuple((cell, 1) if type(cell) is int else cell for cell in (n, m, s, p, k))


class ExampleTest(unittest.TestCase):
    blind = SMALL_SPEC[:2] + ((("v", "", (20, 20), HIDDEN, LETTERS, ("plain", ("fit",), None), (DOTS,)),), ((0,),))

    def test_the_example_of_the_interface(self):
        self.assertEqual(alike(self.blind, 0, "x"), (((1, 1), "p"), ((10, 1), "p")))
        self.assertTrue(drawn_alike(self.blind, 0, ((1, 1), "p"), ((10, 1), "p")))
        self.assertFalse(drawn_alike(self.blind, 0, ((1, 1), "p"), ((1, 1), "q")))
        with self.assertRaises(NotDecided) as caught:
            alike(self.blind, 0, "y")
        self.assertEqual(caught.exception.name, "channel")


class SingleSketchTest(unittest.TestCase):
    def test_the_sketch_of_one_row_without_keys_and_labels(self):
        label = ("s", (), "above", "below", ())
        shown = linear_scale("fit", axis=("up", True, PLAIN))
        layer = layer_of("point", ("x", N), ("y", M), ("color", S), label=label)
        view = {"title": "View", "x": shown, "y": shown, "color": ("plain", ("fit",), "Colors")}
        cells = cells_of(1, 2, "a")
        found = single_sketch(spec_of(layer, **view), 1, cells)
        bare = spec_of(layer[:5] + (None,), **view)
        self.assertEqual(found, keyless(sketch(bare, 1, ((COLUMNS, ((((1, 1),), cells, (1,)),)),))))
        self.assertEqual({item[2] for item in found}, {""})
        self.assertNotIn("label 0", [item[1] for item in found])
        self.assertIn("x tick label", [item[1] for item in found])

    def test_the_columns_of_the_last_table(self):
        sums = ("group", ("s",), (("t", "sum", "n"),))
        layer = layer_of("bar", ("x", S), ("y", column("t")), transforms=(sums,))
        found = single_sketch(spec_of(layer, x=band_scale("of", ("a",))), 1, ("a", (4, 1)))
        self.assertEqual([item[4] for item in found], [(2, 0, 16, 20)])

    def test_a_row_that_is_not_drawn(self):
        self.assertEqual(single_sketch(spec_of(layer_of("point", ("x", N), ("y", M))), 1, cells_of(1, 9)), ())


class DrawnAlikeTest(unittest.TestCase):
    def test_the_same_pixels(self):
        spec = spec_of(layer_of("point", ("x", N), ("y", M)))
        row = cells_of(1, 2, "a")
        self.assertTrue(drawn_alike(spec, 1, row, row))
        self.assertTrue(drawn_alike(spec, 1, row, cells_of(1, 2, "b", True)))
        self.assertTrue(drawn_alike(spec, 1, row, cells_of((109, 100), 2)))
        self.assertFalse(drawn_alike(spec, 1, row, cells_of((11, 10), 2)))
        self.assertFalse(drawn_alike(spec, 1, row, cells_of(2, 1)))

    def test_rows_that_are_not_drawn(self):
        spec = spec_of(layer_of("point", ("x", N), ("y", M)))
        for row in (cells_of(None, 1), cells_of(9, 1), cells_of(1, -1)):
            self.assertFalse(drawn_alike(spec, 1, row, row))
            self.assertFalse(drawn_alike(spec, 1, row, cells_of(1, 1)))
            self.assertFalse(drawn_alike(spec, 1, cells_of(1, 1), row))

    def test_guides_count(self):
        layer = layer_of("point", ("x", N), ("y", M))
        self.assertTrue(drawn_alike(spec_of(layer, x=HIDDEN), 1, cells_of(1, 1), cells_of(10, 1)))
        shown = linear_scale("fit", axis=AXIS)
        self.assertFalse(drawn_alike(spec_of(layer, x=shown), 1, cells_of(1, 1), cells_of(10, 1)))

    def test_labels_and_keys_do_not_count(self):
        layer = layer_of("line", ("x", N), ("y", M), ("detail", S))
        self.assertTrue(drawn_alike(spec_of(layer), 1, cells_of(1, 1, "a"), cells_of(1, 1, None)))
        layer = layer_of("point", ("x", N), ("y", M), label=("s", (), "above", "above", ()))
        self.assertTrue(drawn_alike(spec_of(layer), 1, cells_of(1, 1, "a"), cells_of(1, 1, "b")))

    def test_arguments_stay_as_they_are(self):
        arguments = (spec_of(layer_of("point", ("x", N), ("y", M))), 1, cells_of(1, 2), cells_of(1, 3))
        before = copy.deepcopy(arguments)
        drawn_alike(*arguments)
        self.assertEqual(arguments, before)


class FullReportTest(unittest.TestCase):
    linear = ("linear", whole(2, 6), 4, False, True)
    bands = ("band", ("a", "b"), 4, False, False)

    def test_linear_rulers(self):
        frame = (0, self.linear, ("linear", whole(0, 4), 4, True, False), "plain", ())
        for channel in ("x", "x2"):
            self.assertEqual(full_report(frame, channel, (1, 1)), "below")
            self.assertEqual(full_report(frame, channel, (19, 10)), "below")
            self.assertEqual(full_report(frame, channel, (2, 1)), ((2, 1), (5, 2), False))
            self.assertEqual(full_report(frame, channel, (6, 1)), ((11, 2), (6, 1), True))
            self.assertEqual(full_report(frame, channel, (61, 10)), "above")
        for channel in ("y", "y2"):
            self.assertEqual(full_report(frame, channel, (1, 1)), ((1, 2), (3, 2), False))

    def test_all_other_channels(self):
        frame = (0, self.bands, self.bands, "plain", ("a",))
        for channel in ("x", "x2", "y", "y2"):
            self.assertEqual(full_report(frame, channel, "b"), "b")
        frame = (0, self.linear, self.linear, "plain", ("a",))
        for channel in ("color", "text", "detail"):
            for cell in ("a", (99, 1), True, None):
                self.assertEqual(full_report(frame, channel, cell), cell)


class AlikeTest(unittest.TestCase):
    def check(self, expected, layer, channel, **view):
        """The two rows are the expected ones, are drawn alike, and have different full reports."""
        spec = spec_of(layer, **view)
        check_spec(spec)
        before = copy.deepcopy(spec)
        first, second = alike(spec, 1, channel)
        self.assertEqual(spec, before)
        if expected is not None:
            self.assertEqual((first, second), expected)
        self.assertTrue(drawn_alike(spec, 1, first, second))
        columns = last_columns(spec, 1, 0)
        place = [name for name, _ in columns].index(dict(layer[3])[channel][1])
        reports = []
        for cells in (first, second):
            frame = frame_of(spec, 1, ((columns, ((((1, 1),), cells, (1,)),)),))[0]
            reports.append(full_report(frame, channel, cells[place]))
        self.assertNotEqual(*reports)

    def test_a_clamped_scale(self):
        layer = layer_of("point", ("x", N), ("y", M))
        for low, below in (((0, 1), -1), ((5, 2), 1), ((-5, 2), -4), ((3, 1), 2)):
            scale = linear_scale("from", low, (9, 1), clamped=True, axis=AXIS)
            self.check((cells_of(low, 0), cells_of(below, 0)), layer, "x", x=scale)

    def test_hidden_scales_of_each_form(self):
        layer = layer_of("point", ("x", N), ("y", S), ("color", P))
        bands = band_scale("fit")
        view = {"y": bands, "x": HIDDEN, "color": ("plain", ("fit",), None)}
        self.check((cells_of(1, None, "a", False), cells_of(10, None, "a", False)), layer, "x", **view)
        self.check((cells_of(1, None, "a", False), cells_of(1, None, "b", False)), layer, "y", **view)
        self.check((cells_of(1, None, "a", False), cells_of(1, None, "a", True)), layer, "color", **view)
        numbers = layer_of("point", ("x", N), ("y", M))
        self.check((cells_of(1, 1), cells_of(1, 10)), numbers, "y", x=linear_scale("zero"), y=bands)
        self.check((cells_of(1, 1), cells_of(10, 1)), numbers, "x", x=linear_scale("zero"), y=bands)

    def test_all_channels_of_the_same_scale(self):
        layer = layer_of("rule", ("x", N), ("x2", M), ("y", K))
        self.check((cells_of(1, 1, k=0), cells_of(10, 10, k=0)), layer, "x", x=HIDDEN)
        self.check((cells_of(1, 1, k=0), cells_of(10, 10, k=0)), layer, "x2", x=HIDDEN)
        layer = layer_of("bar", ("x", N), ("x2", M), ("y", K))
        self.check((cells_of(1, 1, k=0), cells_of(10, 10, k=0)), layer, "x2", x=HIDDEN)

    def test_the_cells_of_other_channels(self):
        layer = layer_of("point", ("x", N), ("y", S), ("color", P))
        self.check((cells_of(1, None, "q", True), cells_of(10, None, "q", True)), layer, "x", x=HIDDEN,
                   y=band_scale("of", ("q", "a")), color=("safe", ("of", (True, False)), ""))
        text = layer_of("text", ("x", N), ("y", M), ("text", S))
        self.check((cells_of(1, 0, "a"), cells_of(10, 0, "a")), text, "x", x=HIDDEN)
        line = layer_of("line", ("x", N), ("y", M), ("detail", P))
        shifted = linear_scale("from", (7, 2), (9, 2))
        self.check((cells_of(1, (7, 2), p=False), cells_of(10, (7, 2), p=False)), line, "x", x=HIDDEN, y=shifted)

    def test_detail(self):
        for source, values in ((S, ("a", "b")), (P, (False, True)), (K, whole(1, 10))):
            layer = layer_of("line", ("x", N), ("y", M), ("detail", source))
            expected = tuple(cells_of(0, 0, **{source[1]: value}) for value in values)
            self.check(expected, layer, "detail")
        layer = layer_of("line", ("x", N), ("y", M), ("detail", S), ("color", P))
        self.check((cells_of(0, 0, "a", False), cells_of(0, 0, "b", False)), layer, "detail")

    def test_the_columns_of_the_last_table(self):
        sums = ("group", ("s",), (("t", "sum", "n"), ("c", "count", None)))
        layer = layer_of("bar", ("x", S), ("y", column("t")), transforms=(sums,))
        self.check((("a", (1, 1), None), ("a", (10, 1), None)), layer, "y", x=band_scale("of", ("a", "b")),
                   y=linear_scale("zero"))

    def test_random_charts(self):
        random = Random(322)
        found = 0
        while found < 400:
            spec, _ = some_chart(random, layers=1)
            for number, view in enumerate(spec[2]):
                for channel in shown_channels(view[6][0]):
                    try:
                        first, second = alike(spec, number, channel)
                    except NotDecided:
                        continue
                    found += 1
                    self.assertTrue(drawn_alike(spec, number, first, second))
                    place = [name for name, _ in last_columns(spec, number, 0)].index(dict(view[6][0][3])[channel][1])
                    columns = last_columns(spec, number, 0)
                    reports = [full_report(frame_of(spec, number, ((columns, ((((1, 1),), cells, (1,)),)),))[0], channel,
                                           cells[place]) for cells in (first, second)]
                    self.assertNotEqual(*reports)


class NotDecidedTest(unittest.TestCase):
    def refuse(self, word, channel, *layers, **view):
        spec = spec_of(*layers, **view)
        check_spec(spec)
        with self.assertRaises(NotDecided) as caught:
            alike(spec, 1, channel)
        self.assertEqual(caught.exception.name, word)

    point = layer_of("point", ("x", N), ("y", M))

    def test_layers(self):
        self.refuse("layers", "x", x=HIDDEN)
        self.refuse("layers", "x", self.point, self.point, x=HIDDEN)
        self.refuse("layers", "text", self.point, self.point)

    def test_channel(self):
        self.refuse("channel", "x", self.point)
        self.refuse("channel", "x2", self.point, x=HIDDEN)
        self.refuse("channel", "detail", self.point)
        self.refuse("channel", "text", layer_of("text", ("x", N), ("y", M), ("text", S)))
        self.refuse("channel", "x", layer_of("point", ("x", constant((1, 1))), ("y", M)), x=HIDDEN)

    def test_constant(self):
        self.refuse("constant", "x", layer_of("point", ("x", N), ("y", constant((1, 1)))), x=HIDDEN)
        self.refuse("constant", "x", layer_of("rule", ("x", N), ("y", N), ("color", constant("a"))), x=HIDDEN)

    def test_column(self):
        self.refuse("column", "x", layer_of("point", ("x", N), ("y", N)), x=HIDDEN)
        self.refuse("column", "detail", layer_of("line", ("x", N), ("y", M), ("color", S), ("detail", S)))

    def test_the_first_one_that_applies(self):
        layer = layer_of("rule", ("x", N), ("y", N), ("x2", constant((1, 1))))
        self.refuse("layers", "y2", layer, layer)
        self.refuse("channel", "y", layer)
        self.refuse("constant", "x", layer, x=HIDDEN)


class DecidedTest(unittest.TestCase):
    def test_the_drawing_decides_the_report(self):
        """Tables whose sketches are the same, found by changing cells a little, have the same reports."""
        random = Random(324)
        found, changed = 0, 0
        while found < 300:
            spec, data = some_chart(random, layers=1, views=1)
            layer = spec[2][0][6][0]
            if layer[5] is not None or not all(can_read(spec, 0, channel) for channel in shown_channels(layer)):
                continue
            columns = last_columns(spec, 0, 0)
            tables = []
            rows = [tuple(some_cell(random, kind) for _, kind in columns) for _ in range(random.randrange(1, 5))]
            for _ in range(6):
                other = [tuple(nearby(random, cell) for cell in row) for row in rows]
                if random.random() < 0.3:
                    random.shuffle(other)
                tables.append((columns, tuple((((at, 1),), cells, (at,)) for at, cells in enumerate(other, 1))))
            reports = {}
            for table in tables:
                try:
                    drawn = keyless(sketch(spec, 0, (table,)))
                except ChartError:
                    continue
                report = report_rows(spec, 0, 0, frame_of(spec, 0, (table,))[0], table)
                self.assertEqual(reports.setdefault(drawn, (report, table))[0], report)
                changed += reports[drawn][1] != table
            found += 1
        self.assertGreater(changed, 100)


if __name__ == "__main__":
    unittest.main()
