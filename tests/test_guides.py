"""Points 260 to 263, and point 268 for frames."""

import copy
import unittest

from samples import (PLAIN, band_scale, by_role, chart_of, column, constant, layer_of, linear_scale, numbered, view_of,
                     whole)

from chartspec.errors import TooManyCategories
from chartspec.guides import frame_of, guides_of, shown_cells
from chartspec.tables import data_table

COLUMNS = (("n", "number"), ("s", "text"), ("p", "boolean"))
TABLES = (("t", COLUMNS),)
N, S, P = (column(name) for name in "nsp")
POINT = layer_of("point", ("x", N), ("y", N))
BLACK, GRAY, LIGHT = "#000000", "#888888", "#dddddd"


def shown(title="", grid=False, style=PLAIN):
    return (title, grid, style)


def table_of(*rows):
    return data_table(COLUMNS, numbered(*[whole(row[0]) + tuple(row[1:]) for row in rows]))


def guides(*layers, rows=((0, "a", True), (10, "b", False)), **view):
    """The two tuples of guides of a view whose layers all have these rows."""
    spec = chart_of(view_of(*layers, **view), tables=TABLES)
    return guides_of(spec, 0, (table_of(*rows),) * len(layers))


def frame(*layers, tables, **view):
    return frame_of(chart_of(view_of(*layers, **view), tables=TABLES), 0, tables)


def text(role, place, content, key="", shape="text start"):
    return (0, role, key, shape, place, content, BLACK, None, None)


def line(role, points, color, key=""):
    return (0, role, key, "line", points, "", None, color, None)


class ShownCellsTest(unittest.TestCase):
    layers = (layer_of("rule", ("x2", S), ("y", N), ("x", P)), layer_of("point", ("y", constant((7, 1))), ("x", S)))
    tables = (table_of((1, "a", True), (None, None, False)), table_of((3, "c", None)))

    def test_layer_by_layer_row_by_row_and_in_the_order_of_the_words(self):
        self.assertEqual(shown_cells(self.layers, self.tables, ("x", "x2")), (True, "a", False, None, "c"))
        self.assertEqual(shown_cells(self.layers, self.tables, ("x2", "x")), ("a", True, None, False, "c"))
        self.assertEqual(shown_cells(self.layers, self.tables, ("y", "y2")), ((1, 1), None, (7, 1)))

    def test_channels_that_no_layer_has(self):
        self.assertEqual(shown_cells(self.layers, self.tables, ("color",)), ())
        self.assertEqual(shown_cells(self.layers, self.tables, ()), ())
        self.assertEqual(shown_cells((), (), ("x",)), ())

    def test_a_constant_counts_for_each_row(self):
        layers = (layer_of("point", ("x", constant("k")), ("y", N)),)
        self.assertEqual(shown_cells(layers, (table_of(),), ("x",)), ())
        self.assertEqual(shown_cells(layers, (table_of((1, "a", None), (2, "b", None)),), ("x",)), ("k", "k"))


class FrameTest(unittest.TestCase):
    def test_what_a_frame_has(self):
        x, y = linear_scale("zero", axis=shown(), ticks=2), band_scale("fit", backwards=True, axis=shown())
        layer = layer_of("point", ("x", N), ("y", S), ("color", P))
        spec = chart_of(view_of(name="a"), view_of(layer, name="b", x=x, y=y, size=(40, 30), color=("safe", ("fit",), "")),
                        tables=TABLES)
        self.assertEqual(frame_of(spec, 1, (table_of((8, "u", True), (3, "v", False)),)), (
            (1, ("linear", whole(0, 10), 40, False, False), ("band", ("u", "v"), 30, True, False), "safe",
             (False, True)),
            ((0, (0, 1), "0", 0), (20, (5, 1), "5", 0), (40, (10, 1), "10", 0)),
            ((7, "v", "v", 0), (22, "u", "u", 0))))

    def test_rows_that_are_not_drawn_count(self):
        layer = layer_of("point", ("x", N), ("y", S), ("color", S))
        found = frame(layer, tables=(table_of((4, None, None), (None, "b", None)),), y=band_scale("fit"),
                      x=linear_scale("zero"))[0]
        self.assertEqual(found[1:3], (("linear", whole(0, 4), 20, False, False), ("band", ("b",), 20, False, False)))
        self.assertEqual(found[4], ("b",))

    def test_second_ends_and_all_layers_count(self):
        first = layer_of("rule", ("x", N), ("y", S), ("y2", constant("z")))
        second = layer_of("point", ("x", constant((10, 1))), ("y", S), ("color", constant("k")))
        tables = (table_of((0, "b", None)), table_of((99, "a", None)))
        found = frame(first, second, tables=tables, x=linear_scale("fit"), y=band_scale("fit"))[0]
        self.assertEqual(found[1][1], whole(0, 10))
        self.assertEqual(found[2][1], ("a", "b", "z"))
        self.assertEqual(found[4], ("k",))

    def test_tables_without_rows(self):
        layer = layer_of("point", ("x", N), ("y", constant("k")), ("color", constant("c")))
        found = frame(layer, tables=(table_of(),), x=linear_scale("fit", axis=shown()), y=band_scale("fit", axis=shown()))
        self.assertEqual(found[0][1:], (("linear", whole(0, 1), 20, False, False), ("band", (), 20, False, False),
                                        "plain", ()))
        self.assertEqual(found[2], ())

    def test_declared_domains(self):
        layer = layer_of("point", ("x", N), ("y", S), ("color", S))
        found = frame(layer, tables=(table_of((99, "a", None)),), x=linear_scale("from", (1, 1), (2, 1)),
                      y=band_scale("of", ("z", "y")), color=("dark", ("of", ("k", "a")), None))[0]
        self.assertEqual(found, (0, ("linear", whole(1, 2), 20, False, False), ("band", ("z", "y"), 20, False, False),
                                 "dark", ("k", "a")))

    def test_no_layers(self):
        found = frame(tables=(), x=linear_scale("zero"), y=band_scale("fit"))
        self.assertEqual(found[0], (0, ("linear", whole(0, 1), 20, False, False), ("band", (), 20, False, False),
                                    "plain", ()))

    def test_hidden_axes_have_no_ticks(self):
        found = frame(POINT, tables=(table_of((1, None, None)),), x=linear_scale("fit"), y=linear_scale("zero"))
        self.assertEqual(found[1:], ((), ()))

    def test_more_categories_than_colors(self):
        layer = layer_of("point", ("x", N), ("y", N), ("color", S))
        letters = "jihgfedcba"
        found = frame(layer, tables=(table_of(*[(1, letter, None) for letter in letters]),))[0]
        self.assertEqual(found[4], tuple(sorted(letters)))


class TooManyCategoriesTest(unittest.TestCase):
    def refuse(self, count, rows, size, x, y):
        layer = layer_of("point", ("x", N if x[0] == "linear" else S), ("y", N if y[0] == "linear" else S))
        spec = chart_of(view_of(layer, size=size, x=x, y=y), tables=TABLES)
        for function in (frame_of, guides_of):
            with self.assertRaises(TooManyCategories) as caught:
                function(spec, 0, (table_of(*rows),))
            self.assertEqual(caught.exception.count, count)

    def test_of_each_axis(self):
        rows = [(1, letter, None) for letter in "abcde"]
        self.refuse(5, rows, (4, 10), band_scale("fit"), TO_TEN_SHOWN)
        self.refuse(5, rows, (10, 4), TO_TEN_SHOWN, band_scale("fit"))

    def test_x_before_y(self):
        layer = layer_of("point", ("x", S), ("y", N))
        spec = chart_of(view_of(layer, size=(4, 5), x=band_scale("fit"), y=band_scale("fit")), tables=TABLES)
        rows = [(number, letter, None) for number, letter in enumerate("abcdeef")]
        with self.assertRaises(TooManyCategories) as caught:
            guides_of(spec, 0, (table_of(*rows),))
        self.assertEqual(caught.exception.count, 6)

    def test_as_many_categories_as_pixels(self):
        layer = layer_of("point", ("x", S), ("y", S))
        found = frame(layer, tables=(table_of(*[(1, letter, None) for letter in "abcd"]),), size=(4, 4),
                      x=band_scale("fit"), y=band_scale("fit"))
        self.assertEqual(found[0][1][1], tuple("abcd"))


TO_TEN_SHOWN = linear_scale("from", (0, 1), (10, 1), axis=shown())


class TitleTest(unittest.TestCase):
    def test_no_title(self):
        self.assertEqual(guides(POINT)[0], ())
        self.assertEqual(guides(POINT, y=TO_TEN_SHOWN)[0], ())

    def test_one_title(self):
        named = linear_scale("from", (0, 1), (10, 1), axis=shown("up"))
        self.assertEqual(guides(POINT, y=named)[0], (text("y axis title", (0, -12), "up"),))
        self.assertEqual(guides(POINT, title="View")[0], (text("panel title", (0, -12), "View"),))
        self.assertEqual(guides(POINT, title="View", y=TO_TEN_SHOWN)[0], (text("panel title", (0, -12), "View"),))

    def test_two_titles(self):
        named = linear_scale("from", (0, 1), (10, 1), axis=shown("up"))
        self.assertEqual(guides(POINT, y=named, title="View")[0],
                         (text("y axis title", (0, -12), "up"), text("panel title", (0, -24), "View")))

    def test_the_number_of_the_view(self):
        spec = chart_of(view_of(name="a"), view_of(name="b", title="B", x=TO_TEN_SHOWN), tables=TABLES)
        before, after = guides_of(spec, 1, ())
        self.assertEqual({item[0] for item in before + after}, {1})


class GridTest(unittest.TestCase):
    def test_lines_of_both_axes(self):
        x = linear_scale("from", (0, 1), (10, 1), ticks=2, axis=shown(grid=True))
        y = band_scale("of", ("p", "q"), axis=shown(grid=True))
        layer = layer_of("point", ("x", N), ("y", S))
        self.assertEqual(guides(layer, x=x, y=y, size=(40, 20))[0], (
            line("x grid", (0, 0, 0, 20), LIGHT, "0"), line("x grid", (20, 0, 20, 20), LIGHT, "5"),
            line("x grid", (40, 0, 40, 20), LIGHT, "10"),
            line("y grid", (0, 15, 40, 15), LIGHT, '"p"'), line("y grid", (0, 5, 40, 5), LIGHT, '"q"')))

    def test_behind_the_titles(self):
        grid = linear_scale("from", (0, 1), (10, 1), ticks=1, axis=shown("up", True))
        before, _ = guides(POINT, x=grid, y=grid, title="View")
        self.assertEqual([item[1] for item in before],
                         ["y axis title", "panel title", "x grid", "x grid", "y grid", "y grid"])

    def test_hidden_axes_and_axes_without_grid_lines(self):
        grid = linear_scale("from", (0, 1), (10, 1), axis=shown(grid=True))
        self.assertEqual({item[1] for item in guides(POINT, x=grid, y=TO_TEN_SHOWN)[0]}, {"x grid"})
        self.assertEqual({item[1] for item in guides(POINT, x=TO_TEN_SHOWN, y=grid)[0]}, {"y grid"})
        self.assertEqual({item[1] for item in guides(POINT, y=grid)[0]}, {"y grid"})

    def test_keys_of_fractions_that_are_no_numbers(self):
        grid = linear_scale("from", (0, 1), (1, 10 ** 11), ticks=5, axis=shown(grid=True))
        keys = [item[2] for item in by_role(guides(POINT, x=grid, size=(400, 20))[0], "x grid")]
        self.assertEqual(keys[1], "0.000000000002")


class AxisTest(unittest.TestCase):
    def test_the_x_axis(self):
        x = linear_scale("from", (0, 1), (10, 1), ticks=2, axis=shown("right", True, ("$", "", False)))
        _, after = guides(POINT, x=x, size=(41, 30))
        self.assertEqual(after, (
            line("x axis", (0, 30, 41, 30), GRAY),
            line("x tick", (0, 30, 0, 34), GRAY, "0"), line("x tick", (21, 30, 21, 34), GRAY, "5"),
            line("x tick", (41, 30, 41, 34), GRAY, "10"),
            text("x tick label", (0, 36), "$0", "0", "text middle"),
            text("x tick label", (21, 36), "$5", "5", "text middle"),
            text("x tick label", (41, 36), "$10", "10", "text middle"),
            text("x axis title", (20, 47), "right", shape="text middle")))

    def test_the_y_axis(self):
        y = linear_scale("from", (0, 1), (10, 1), ticks=2, axis=shown("up"))
        _, after = guides(POINT, y=y, size=(40, 31))
        self.assertEqual(after, (
            line("y axis", (0, 0, 0, 31), GRAY),
            line("y tick", (-4, 31, 0, 31), GRAY, "0"), line("y tick", (-4, 15, 0, 15), GRAY, "5"),
            line("y tick", (-4, 0, 0, 0), GRAY, "10"),
            text("y tick label", (-6, 28), "0", "0", "text end"), text("y tick label", (-6, 12), "5", "5", "text end"),
            text("y tick label", (-6, -3), "10", "10", "text end")))

    def test_hidden_axes(self):
        self.assertEqual(guides(POINT), ((), ()))

    def test_an_x_axis_without_a_title(self):
        _, after = guides(POINT, x=TO_TEN_SHOWN)
        self.assertEqual([item[1] for item in after], ["x axis"] + ["x tick"] * 2 + ["x tick label"] * 2)

    def test_the_x_axis_comes_before_the_y_axis(self):
        _, after = guides(POINT, x=TO_TEN_SHOWN, y=TO_TEN_SHOWN)
        roles = [item[1] for item in after]
        self.assertEqual(roles, sorted(roles, key=("x axis", "x tick", "x tick label", "x axis title", "y axis",
                                                   "y tick", "y tick label").index))

    def test_reversed_axes(self):
        backwards = linear_scale("from", (0, 1), (10, 1), ticks=1, backwards=True, axis=shown())
        _, after = guides(POINT, x=backwards, y=backwards)
        self.assertEqual([item[4:6] for item in by_role(after, "x tick label")], [((0, 26), "10"), ((20, 26), "0")])
        self.assertEqual([item[4:6] for item in by_role(after, "y tick label")], [((-6, 17), "10"), ((-6, -3), "0")])

    def test_labels_of_the_x_axis_in_several_lines(self):
        names = ("a long name", "another long name", "b", "c")
        layer = layer_of("point", ("x", S), ("y", N))
        _, after = guides(layer, x=band_scale("of", names, axis=shown("below")), size=(60, 20))
        self.assertEqual([item[4] for item in by_role(after, "x tick label")],
                         [(7, 26), (22, 35), (37, 44), (52, 26)])
        self.assertEqual([item[4] for item in by_role(after, "x axis title")], [(30, 55)])

    def test_labels_of_the_y_axis_in_several_lines(self):
        # The bands are so narrow that the labels have three lines: the widths are 14, 23, 4 and 9, 4, 4.
        names = ("abc", "north.", "d", "ef", "g", "h")
        layer = layer_of("point", ("x", N), ("y", S))
        _, after = guides(layer, y=band_scale("of", names, axis=shown()), size=(20, 24))
        found = by_role(after, "y tick label")
        self.assertEqual([item[5] for item in found], list(names))
        self.assertEqual([item[4][0] for item in found], [-6, -26, -56, -6, -26, -56])
        self.assertEqual([item[4][1] for item in found], [19, 15, 11, 7, 3, -1])
        self.assertEqual({item[3] for item in found}, {"text end"})

    def test_a_title_of_the_x_axis_without_ticks(self):
        layer = layer_of("point", ("x", S), ("y", N))
        _, after = guides(layer, rows=(), x=band_scale("fit", axis=shown("below")), y=band_scale("fit", axis=shown()))
        self.assertEqual(after, (line("x axis", (0, 20, 20, 20), GRAY),
                                 text("x axis title", (10, 37), "below", shape="text middle"),
                                 line("y axis", (0, 0, 0, 20), GRAY)))

    def test_keys_of_band_scales(self):
        layer = layer_of("point", ("x", P), ("y", N))
        _, after = guides(layer, x=band_scale("fit", axis=shown()), size=(60, 20))
        self.assertEqual([item[2] for item in by_role(after, "x tick")], ["false", "true"])
        self.assertEqual([item[2] for item in by_role(after, "x tick label")], ["false", "true"])


class LegendTest(unittest.TestCase):
    colored = layer_of("point", ("x", N), ("y", N), ("color", S))

    def legend(self, *layers, **view):
        _, after = guides(*layers, **view)
        return by_role(after, "legend title", "legend mark", "legend label")

    def test_without_a_title(self):
        found = self.legend(self.colored, color=("plain", ("fit",), ""))
        self.assertEqual(found, [
            (0, "legend mark", '"a"', "rectangle", (33, 0, 10, 7), "", "#3a6ea8", None, None),
            text("legend label", (49, 0), "a", '"a"'),
            (0, "legend mark", '"b"', "rectangle", (33, 12, 10, 7), "", "#e5832f", None, None),
            text("legend label", (49, 12), "b", '"b"')])

    def test_with_a_title(self):
        found = self.legend(self.colored, color=("safe", ("of", ("b",)), "Colors"))
        self.assertEqual(found, [
            text("legend title", (33, 0), "Colors"),
            (0, "legend mark", '"b"', "rectangle", (33, 12, 10, 7), "", "#1166aa", None, None),
            text("legend label", (49, 12), "b", '"b"')])

    def test_a_hidden_legend(self):
        self.assertEqual(self.legend(self.colored, color=("plain", ("fit",), None)), [])
        self.assertEqual(self.legend(self.colored, color=("plain", ("of", ("a",)), None)), [])

    def test_a_constant_alone_makes_no_legend(self):
        constantly = layer_of("point", ("x", N), ("y", N), ("color", constant("a")))
        self.assertEqual(self.legend(constantly, color=("plain", ("of", ("a",)), "")), [])
        self.assertEqual(self.legend(POINT, color=("plain", ("of", ("a",)), "Colors")), [])
        self.assertEqual(len(self.legend(POINT, constantly, self.colored, color=("plain", ("of", ("a",)), ""))), 2)

    def test_no_categories(self):
        self.assertEqual(self.legend(self.colored, rows=(), color=("plain", ("fit",), "")), [])
        self.assertEqual(self.legend(self.colored, rows=(), color=("plain", ("fit",), "Colors")),
                         [text("legend title", (33, 0), "Colors")])

    def test_more_than_eight_categories(self):
        rows = tuple((1, letter, None) for letter in "abcdefghij")
        found = self.legend(self.colored, rows=rows, color=("plain", ("fit",), ""))
        self.assertEqual([item[5] for item in by_role(found, "legend label")], list("abcdefgh"))
        self.assertEqual([item[4][1] for item in by_role(found, "legend mark")], [12 * at for at in range(8)])
        self.assertEqual(found[-2][6], "#f58fa3")

    def test_behind_the_axes(self):
        _, after = guides(self.colored, x=TO_TEN_SHOWN, y=TO_TEN_SHOWN, color=("plain", ("fit",), ""))
        self.assertEqual([item[1] for item in after[-4:]], ["legend mark", "legend label"] * 2)

    def test_right_of_a_label_of_the_x_axis_that_reaches_beyond_the_plot(self):
        # The last label is 9 pixels wide, has its middle at 20, and ends before 25.
        wide = linear_scale("from", (0, 1), (10, 1), ticks=1, axis=shown(style=("", "o", False)))
        self.assertEqual(self.legend(self.colored, x=wide, color=("plain", ("fit",), ""))[0][4][0], 19 + 8 + 12)
        # A label of the y axis plays no part, neither does a narrow one of the x axis.
        self.assertEqual(self.legend(self.colored, y=wide, color=("plain", ("fit",), ""))[0][4][0], 33)
        narrow = band_scale("of", whole(1, 10), axis=shown())
        self.assertEqual(self.legend(self.colored, x=narrow, color=("plain", ("fit",), ""))[0][4][0], 33)

    def test_right_of_a_wide_title_of_the_x_axis(self):
        # The title is 31 pixels wide and begins 15 pixels before its middle.
        titled = linear_scale("from", (0, 1), (10, 1), ticks=1, axis=shown("iiiiiiiiiiiiiiii"))
        self.assertEqual(self.legend(self.colored, x=titled, color=("plain", ("fit",), ""))[0][4][0], 10 - 15 + 31 + 12)

    def test_texts_and_keys_of_categories(self):
        layer = layer_of("point", ("x", N), ("y", N), ("color", N))
        found = self.legend(layer, color=("plain", ("of", ((1, 2), (-1, 3))), ""))
        self.assertEqual([(item[2], item[5]) for item in by_role(found, "legend label")],
                         [("0.5", "0.5"), ("-1/3", "-1/3")])

    def test_arguments_stay_as_they_are(self):
        spec = chart_of(view_of(self.colored, x=TO_TEN_SHOWN, color=("plain", ("fit",), "")), tables=TABLES)
        tables = (table_of((1, "a", None)),)
        before = copy.deepcopy((spec, tables))
        guides_of(spec, 0, tables)
        self.assertEqual((spec, tables), before)


if __name__ == "__main__":
    unittest.main()
