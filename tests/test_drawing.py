"""Points 266 and 268, with the examples of points 2 and 269, and point 226 for what is passed."""

import copy
import unittest
from random import Random

from samples import (BAR, CHART_TABLES, MAIN, PLAIN, SALES, SALES_SPEC, band_scale, by_role, chart_of,
                     column, constant, layer_of, linear_scale, numbered, some_chart, view_of)

from chartspec.drawing import draw, layer_tables, sketch
from chartspec.errors import TooManyCategories
from chartspec.guides import frame_of, guides_of
from chartspec.layout import outline_of
from chartspec.pictures import color_at
from chartspec.scenes import is_keyed
from chartspec.series import layer_marks
from chartspec.tables import data_table
from chartspec.tags import label_marks

COLUMNS = (("n", "number"), ("s", "text"))
TABLES = (("t", COLUMNS),)
N, S = column("n"), column("s")
SHOWN = linear_scale("from", (0, 1), (10, 1), ticks=1, axis=("axis", True, PLAIN))
LABEL = ("s", (), "above", "below", ())


def table_of(*rows):
    return data_table(COLUMNS, numbered(*rows))


class ExampleTest(unittest.TestCase):
    scene = draw(SALES_SPEC, (SALES,))

    def test_point_2(self):
        self.assertEqual(self.scene[:2], (131, 123))
        self.assertEqual(self.scene[2][7], (0, "mark 0", "1", "rectangle", (25, 80, 40, 20), "", "#3a6ea8", None,
                                            (20, 40, 101, 61)))
        self.assertEqual([item[5] for item in by_role(self.scene[2], "y tick label")], ["0", "1", "2", "3"])

    def test_point_269(self):
        self.assertEqual(self.scene[2][:3], (
            (None, "background", "", "rectangle", (0, 0, 131, 123), "", "#ffffff", None, None),
            (None, "title", "", "text start", (10, 10), "Sales", "#000000", None, None),
            (0, "y axis title", "", "text start", (20, 28), "total", "#000000", None, None)))
        self.assertEqual(by_role(self.scene[2], "x axis")[0][4], (20, 100, 120, 100))

    def test_the_interface(self):
        tagged = (BAR[:5] + (("total", (("total", True),), "above", "below", ()),),)
        labelled = ("Sales", SALES_SPEC[1], (MAIN[:6] + (tagged,),), ((0,),))
        self.assertEqual(len(draw(labelled, (SALES,))[2]), 24)
        self.assertEqual(draw(labelled, (SALES,))[2][:23], self.scene[2])
        self.assertEqual(draw(labelled, (SALES,))[2][23],
                         (0, "label 0", "1", "text start", (44, 71), "1", "#000000", None, None))

    def test_the_picture(self):
        self.assertEqual([color_at(self.scene, x, 90) for x in (24, 25, 64, 65, 74, 75)],
                         ["#ffffff", "#3a6ea8", "#3a6ea8", "#ffffff", "#ffffff", "#3a6ea8"])


class LayerTableTest(unittest.TestCase):
    def test_all_transforms_one_after_the_other(self):
        large = ("filter", (">", N, ("cell", (1, 1))))
        sums = ("group", ("s",), (("sum", "sum", "n"),))
        layers = (layer_of("point"), layer_of("point", transforms=(large,)), layer_of("point", transforms=(large, sums)))
        spec = chart_of(view_of(*layers), tables=TABLES)
        data = (((1, ((1, 1), "a")), (4, ((2, 1), "b")), (5, ((3, 1), "b"))),)
        first = data_table(COLUMNS, data[0])
        self.assertEqual(layer_tables(spec, data, 0), (
            first, (COLUMNS, first[1][1:]),
            ((("s", "text"), ("sum", "number")), ((("b",), ("b", (5, 1)), (4, 5)),))))

    def test_the_table_of_each_layer(self):
        other = ("other", (("k", "boolean"),))
        spec = chart_of(view_of(name="a"), view_of(layer_of("point", table="other"), layer_of("point"), name="b"),
                        tables=TABLES + (other,))
        data = (((2, ((1, 1), "a")),), ((3, (True,)),))
        self.assertEqual(layer_tables(spec, data, 0), ())
        self.assertEqual(layer_tables(spec, data, 1), (data_table(other[1], data[1]), data_table(COLUMNS, data[0])))


class SketchTest(unittest.TestCase):
    def test_the_order(self):
        point = layer_of("point", ("x", N), ("y", N), ("color", S), label=LABEL)
        rule = layer_of("rule", ("x", N), label=("s", (), "right", "left", ()))
        spec = chart_of(view_of(point, rule, title="View", size=(40, 40), x=SHOWN, y=SHOWN,
                                color=("plain", ("fit",), "Colors")), tables=TABLES)
        rows = table_of(((2, 1), "a"), ((8, 1), "b"))
        found = sketch(spec, 0, (rows, rows))
        self.assertEqual([item[1] for item in found], [
            "y axis title", "panel title", "x grid", "x grid", "y grid", "y grid",
            "mark 0", "mark 0", "mark 1", "mark 1",
            "x axis", "x tick", "x tick", "x tick label", "x tick label", "x axis title",
            "y axis", "y tick", "y tick", "y tick label", "y tick label",
            "legend title", "legend mark", "legend label", "legend mark", "legend label",
            "label 0", "label 0", "label 1", "label 1"])

    def test_what_it_consists_of(self):
        random = Random(266)
        for _ in range(200):
            spec, data = some_chart(random)
            for number, view in enumerate(spec[2]):
                tables = layer_tables(spec, data, number)
                frame = frame_of(spec, number, tables)[0]
                before, after = guides_of(spec, number, tables)
                marks, labels = (), ()
                for at, (layer, table) in enumerate(zip(view[6], tables)):
                    marks += layer_marks(frame, at, layer, table)
                    labels += label_marks(frame, view[6], tables, at)
                self.assertEqual(sketch(spec, number, tables), before + marks + after + labels)

    def test_tables_need_not_come_from_data(self):
        spec = chart_of(view_of(layer_of("point", ("x", N), ("y", N))), tables=TABLES)
        rows = ((("a", True), ((1, 1), "s"), (3, 4)), ((None, False), ((2, 1), None), (2,)))
        self.assertEqual([item[2] for item in sketch(spec, 0, ((COLUMNS, rows),))], ['"a",true', "-,false"])

    def test_too_many_categories(self):
        spec = chart_of(view_of(layer_of("point", ("x", S), ("y", N)), size=(4, 4), x=band_scale("fit")), tables=TABLES)
        rows = table_of(*[((1, 1), letter) for letter in "abcde"])
        with self.assertRaises(TooManyCategories) as caught:
            sketch(spec, 0, (rows,))
        self.assertEqual(caught.exception.count, 5)


class DrawTest(unittest.TestCase):
    point = layer_of("point", ("x", N), ("y", N))

    def test_a_page_without_anything(self):
        self.assertEqual(draw(chart_of(view_of(), tables=TABLES), ((),)), (
            41, 41, ((None, "background", "", "rectangle", (0, 0, 41, 41), "", "#ffffff", None, None),)))

    def test_all_shapes_are_moved(self):
        line = layer_of("line", ("x", N), ("y", N))
        rule = layer_of("rule", ("x", N), ("y", N), ("y2", constant((0, 1))))
        bar = layer_of("bar", ("x", constant((2, 1))), ("x2", constant((3, 1))), ("y", N))
        text = layer_of("text", ("x", N), ("y", N), ("text", S))
        data = (((1, ((5, 1), "a")), (2, ((10, 1), "b"))),)
        scene = draw(chart_of(view_of(self.point, line, rule, bar), view_of(text, name="w"), tables=TABLES), data)
        clip = (10, 10, 21, 21)
        self.assertEqual(scene[:2], (82, 41))
        self.assertEqual(scene[2][1:9], (
            (0, "mark 0", "1", "circle", (20, 20, 3), "", "#000000", None, clip),
            (0, "mark 0", "2", "circle", (30, 10, 3), "", "#000000", None, clip),
            (0, "mark 1", "-,-", "polyline", (20, 20, 30, 10), "", None, "#000000", clip),
            (0, "mark 2", "1", "line", (20, 20, 20, 30), "", None, "#000000", clip),
            (0, "mark 2", "2", "line", (30, 10, 30, 30), "", None, "#000000", clip),
            (0, "mark 3", "1", "rectangle", (14, 20, 2, 10), "", "#000000", None, clip),
            (0, "mark 3", "2", "rectangle", (14, 10, 2, 20), "", "#000000", None, clip),
            (1, "mark 0", "1", "text middle", (61, 17), "a", "#000000", None, (51, 10, 21, 21))))

    def test_the_plots_in_the_order_of_the_rows_of_the_page(self):
        views = [view_of(self.point, name=name, size=size, title=name)
                 for name, size in (("a", (20, 10)), ("b", (30, 20)), ("c", (8, 8)))]
        data = (((1, ((0, 1), "a")),),)
        scene = draw(chart_of(*views, tables=TABLES, rows=((2, 0), (1,))), data)
        # The titles make the outlines 12 pixels higher than the areas.
        self.assertEqual([(item[0], item[4]) for item in by_role(scene[2], "mark 0")],
                         [(2, (10, 30, 3)), (0, (39, 32, 3)), (1, (10, 85, 3))])
        self.assertEqual(scene[:2], (70, 96))
        self.assertEqual([item[0] for item in scene[2]], [None, 2, 2, 0, 0, 1, 1])

    def test_a_title_is_painted_behind_the_plots(self):
        scene = draw(chart_of(view_of(self.point), tables=TABLES, title="Long title"), ((),))
        self.assertEqual([item[:2] for item in scene[2]], [(None, "background"), (None, "title")])
        self.assertEqual(scene[:2], (20 + 42, 59))

    def test_a_shown_axis_reaches_beyond_the_area(self):
        scene = draw(chart_of(view_of(self.point, x=SHOWN), tables=TABLES), (((1, ((0, 1), "a")),),))
        # The outline goes from the left edge of the label 0 to the right edge of the label 10, 2 pixels on each side
        # of the plot on the left and 3 on the right, and from the plot to the title of the axis below its labels.
        self.assertEqual(scene[:2], (2 + 20 + 4 + 20, 21 + 23 + 20))
        self.assertEqual(by_role(scene[2], "mark 0")[0][4], (12, 30, 3))

    def test_too_many_categories_of_the_first_view(self):
        def view(name, *lengths):
            return view_of(layer_of("point", ("x", S), ("y", N)), name=name, size=lengths, x=band_scale("fit"),
                           y=band_scale("fit"))

        rows = tuple((at + 1, ((min(at, 5), 1), letter)) for at, letter in enumerate("abcdefg"))
        for views, rows_of_page, count in (
                ((view("a", 4, 4),), ((0,),), 7),
                ((view("a", 7, 4),), ((0,),), 6),
                ((view("a", 7, 6), view("b", 7, 5)), ((1, 0),), 6),
                ((view("a", 7, 5), view("b", 6, 4)), ((1, 0),), 6)):
            with self.assertRaises(TooManyCategories) as caught:
                draw(chart_of(*views, tables=TABLES, rows=rows_of_page), (rows,))
            self.assertEqual(caught.exception.count, count)
        draw(chart_of(view("a", 7, 6), tables=TABLES), (rows,))

    def test_the_views_come_before_the_rows_of_the_page(self):
        def view(name, many):
            cells = ("filter", ("<=", N, ("cell", (many, 1))))
            return view_of(layer_of("point", ("x", S), ("y", N), transforms=(cells,)), name=name, size=(4, 20),
                           x=band_scale("fit"))

        rows = tuple((at, ((at, 1), letter)) for at, letter in enumerate("abcdefgh", 1))
        for first, second in ((5, 6), (6, 5)):
            with self.assertRaises(TooManyCategories) as caught:
                draw(chart_of(view("a", first), view("b", second), tables=TABLES, rows=((1,), (0,))), (rows,))
            self.assertEqual(caught.exception.count, first)


class RandomTest(unittest.TestCase):
    def test_scenes_are_sketches_on_a_page(self):
        random = Random(268)
        for _ in range(200):
            spec, data = some_chart(random)
            width, height, items = draw(spec, data)
            self.assertTrue(is_keyed((width, height, items)))
            self.assertEqual(items[0], (None, "background", "", "rectangle", (0, 0, width, height), "", "#ffffff", None, None))
            self.assertEqual(len([item for item in items if item[0] is None]), 1 if spec[0] == "" else 2)
            found = [item for item in items if item[0] is not None]
            place = 0
            for row in spec[3]:
                for number in row:
                    tables = layer_tables(spec, data, number)
                    expected = sketch(spec, number, tables)
                    part = found[place:place + len(expected)]
                    self.assertLessEqual(len({moved_by(item, other) for item, other in zip(part, expected)}), 1)
                    place += len(expected)
                    self.assert_inside(spec, number, tables, expected, part, (width, height))
            self.assertEqual(place, len(found))

    def assert_inside(self, spec, number, tables, expected, part, size):
        """The outline lies on the page with its margin."""
        if not part:
            return
        x, y = moved_by(part[0], expected[0])
        before, after = guides_of(spec, number, tables)
        left, top, width, height = outline_of(frame_of(spec, number, tables)[0], before + after)
        self.assertGreaterEqual(left + x, 10)
        self.assertGreaterEqual(top + y, 10 if spec[0] == "" else 28)
        self.assertLessEqual(left + x + width, size[0] - 10)
        self.assertLessEqual(top + y + height, size[1] - 10)

    def test_arguments_stay_as_they_are(self):
        random = Random(4)
        for _ in range(20):
            spec, data = some_chart(random)
            before = copy.deepcopy((spec, data))
            draw(spec, data)
            self.assertEqual((spec, data), before)

    def test_data_without_rows(self):
        random = Random(226)
        for _ in range(50):
            spec, _ = some_chart(random)
            try:
                scene = draw(spec, ((),) * len(CHART_TABLES))
            except TooManyCategories:
                continue
            self.assertTrue(is_keyed(scene))


def moved_by(item, original):
    """How far a primitive has been moved; everything else is the same."""
    x, y = item[4][0] - original[4][0], item[4][1] - original[4][1]
    count = len(item[4]) if item[3] in ("line", "polyline") else 2
    points = tuple(number + (x, y)[at % 2] if at < count else number for at, number in enumerate(original[4]))
    clip = original[8] and (original[8][0] + x, original[8][1] + y) + original[8][2:]
    assert item == original[:4] + (points,) + original[5:8] + (clip,), (item, original)
    return (x, y)


if __name__ == "__main__":
    unittest.main()
