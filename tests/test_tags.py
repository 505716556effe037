"""Points 264 and 265, with points 100 to 106, 161 and 220."""

import copy
import unittest
from random import Random

from samples import BAR, MAIN, SALES, SALES_SPEC, column, layer_of, numbered, share_pixels, some_chart, whole

from chartspec.cells import key_text
from chartspec.colors import text_color
from chartspec.drawing import layer_tables
from chartspec.guides import frame_of
from chartspec.placing import place_labels
from chartspec.series import layer_marks
from chartspec.shapes import around
from chartspec.tables import data_table
from chartspec.tags import label_marks, label_problem, labels_of, side_rectangle
from chartspec.texts import text_width

COLUMNS = (("n", "number"), ("m", "number"), ("s", "text"), ("p", "boolean"))
N, M, S = (column(name) for name in "nms")
FIFTY = ("linear", whole(0, 50), 50, False, False)
FRAME = (0, FIFTY, FIFTY, "plain", ("u", "v"))
AREA = (0, 0, 51, 51)


def table_of(*rows):
    """The table of rows (n, m, s, p), where integers stand for numbers."""
    return data_table(COLUMNS, numbered(*[whole(*row[:2]) + tuple(row[2:]) for row in rows]))


def points(label, *channels, paint="#3a6ea8"):
    return layer_of("point", ("x", N), ("y", M), *channels, paint=paint, label=label)


def tag(name, first="above", second="below", keys=(), avoid=()):
    return (name, keys, first, second, avoid)


def texts_and_places(layers, tables, number=0):
    return [(label[1], label[4]) for label in labels_of(FRAME, layers, tables, number)]


class SideTest(unittest.TestCase):
    def test_each_side(self):
        box = (10, 20, 7, 5)
        self.assertEqual(side_rectangle(box, "above", 13), (7, 11, 13, 7))
        self.assertEqual(side_rectangle(box, "below", 13), (7, 27, 13, 7))
        self.assertEqual(side_rectangle(box, "left", 13), (-5, 19, 13, 7))
        self.assertEqual(side_rectangle(box, "right", 13), (19, 19, 13, 7))
        self.assertEqual(side_rectangle(box, "center", 13), (7, 19, 13, 7))

    def test_halves_are_rounded_down_one_by_one(self):
        self.assertEqual(side_rectangle((0, 0, 3, 3), "center", 3), (0, -2, 3, 7))
        self.assertEqual(side_rectangle((0, 0, 4, 4), "center", 3), (1, -1, 3, 7))
        self.assertEqual(side_rectangle((0, 0, 3, 9), "center", 4), (-1, 1, 4, 7))

    def test_empty_rectangles_and_texts(self):
        self.assertEqual(side_rectangle((5, 5, 0, 0), "above", 0), (5, -4, 0, 7))
        self.assertEqual(side_rectangle((5, 5, 0, 0), "left", 0), (3, 2, 0, 7))


class ExampleTest(unittest.TestCase):
    tagged = (BAR[:5] + (("total", (("total", True),), "above", "below", ()),),)
    labelled = ("Sales", SALES_SPEC[1], (MAIN[:6] + (tagged,),), ((0,),))

    def test_the_example_of_the_interface(self):
        tables = layer_tables(self.labelled, (SALES,), 0)
        frame = frame_of(self.labelled, 0, tables)[0]
        self.assertEqual(labels_of(frame, self.tagged, tables, 0), (
            ("2", "3", (73, -9, 4, 7), (73, 62, 4, 7), (((0, 0), (0, 1)), ((0, 1), (0, 0)))),
            ("1", "1", (24, 31, 3, 7), (24, 62, 3, 7), 0)))
        self.assertEqual(label_marks(frame, self.tagged, tables, 0),
                         ((0, "label 0", "1", "text start", (24, 31), "1", "#000000", None, None),))


class LabelledRowsTest(unittest.TestCase):
    def test_the_texts_of_cells(self):
        table = table_of((10, 10, "two words", True), (30, 30, "x", False))
        for name, expected in (("s", ["two words", "x"]), ("n", ["10", "30"]), ("p", ["true", "false"])):
            self.assertEqual([label[1] for label in labels_of(FRAME, (points(tag(name)),), (table,), 0)], expected)

    def test_keys_and_rectangles(self):
        table = table_of((10, 20, "ab", None))
        # The circle at (10, 30) has the rectangle (7, 27, 7, 7) around it, and the text is 9 pixels wide.
        self.assertEqual(labels_of(FRAME, (points(tag("s", "left", "right")),), (table,), 0),
                         (("1", "ab", (-4, 27, 9, 7), (16, 27, 9, 7), 1),))

    def test_rows_without_a_label(self):
        table = table_of((10, 10, None, None), (None, 10, "a", None), (60, 10, "b", None), (30, 30, "c", None),
                         (40, 10, "", None))
        self.assertEqual([label[:2] for label in labels_of(FRAME, (points(tag("s")),), (table,), 0)],
                         [("4", "c"), ("5", "")])

    def test_rows_without_a_color(self):
        table = table_of((10, 10, "u", None), (20, 20, "w", None), (30, 30, None, True))
        layer = points(tag("n"), ("color", S))
        self.assertEqual([label[1] for label in labels_of(FRAME, (layer,), (table,), 0)], ["10"])

    def test_the_order_of_the_keys(self):
        table = table_of((10, 10, "b", True), (20, 20, "a", None), (30, 30, "c", True), (40, 40, "d", False))
        for keys, expected in (((), "bacd"), ((("n", True),), "dcab"), ((("s", False),), "abcd"),
                               ((("p", True), ("n", True)), "cbda"), ((("p", False),), "dbca")):
            self.assertEqual("".join(label[1] for label in labels_of(FRAME, (points(tag("s", keys=keys)),), (table,), 0)),
                             expected)

    def test_only_the_first_sixteen_rows(self):
        table = table_of(*[(number, number, str(number), None) for number in range(20)])
        found = labels_of(FRAME, (points(tag("s", keys=(("n", True),))),), (table,), 0)
        self.assertEqual([label[1] for label in found], [str(number) for number in range(19, 3, -1)])
        # Rows without a label do not count.
        table = table_of(*[(number, number, None if number < 4 else str(number), None) for number in range(20)])
        self.assertEqual(len(labels_of(FRAME, (points(tag("s")),), (table,), 0)), 16)

    def test_without_a_label(self):
        table = table_of((10, 10, "a", None))
        self.assertEqual(labels_of(FRAME, (points(None),), (table,), 0), ())
        self.assertEqual(label_marks(FRAME, (points(None),), (table,), 0), ())
        self.assertEqual(label_problem(FRAME, (points(None),), (table,), 0), (AREA, (), ()))

    def test_a_table_without_rows(self):
        self.assertEqual(labels_of(FRAME, (points(tag("s")),), (table_of(),), 0), ())


class ProblemTest(unittest.TestCase):
    def test_the_area_is_that_of_the_plot(self):
        frame = (0, FIFTY, ("linear", whole(0, 50), 30, False, False), "plain", ())
        self.assertEqual(label_problem(frame, (points(tag("s")),), (table_of(),), 0), ((0, 0, 51, 31), (), ()))

    def test_both_rectangles(self):
        table = table_of((10, 20, "ab", None), (40, 20, "c", None))
        self.assertEqual(label_problem(FRAME, (points(tag("s", "center", "above")),), (table,), 0),
                         (AREA, (), (((6, 27, 9, 7), (6, 18, 9, 7)), ((38, 27, 4, 7), (38, 18, 4, 7)))))

    def test_layers_that_are_avoided(self):
        table = table_of((10, 20, "a", None), (30, 20, None, None))
        rule = layer_of("rule", ("x", N))
        line = layer_of("line", ("x", N), ("y", M))
        layers = (points(tag("s", avoid=(2, 0, 1))), rule, line)
        self.assertEqual(label_problem(FRAME, layers, (table, table, table), 0)[1], (
            (10, 30, 21, 1),
            (7, 27, 7, 7), (27, 27, 7, 7),
            (10, 0, 1, 51), (30, 0, 1, 51)))

    def test_obstacles_are_the_rectangles_around_primitives_whatever_their_clips(self):
        table = table_of((0, 50, "a", None))
        self.assertEqual(label_problem(FRAME, (points(tag("s", avoid=(0,))),), (table,), 0)[1], ((-3, -3, 7, 7),))

    def test_after_the_kept_labels_of_earlier_layers(self):
        # The first label of the first layer is left out above the plot, and so is the second one below.
        first, second = table_of((10, 50, "a", None), (20, 25, "b", None)), table_of((20, 25, "c", None))
        layers = (points(tag("s", "above", "above")), points(tag("s", "above", "below")), points(None))
        self.assertEqual(texts_and_places(layers, (first, second, second))[1], ("b", 0))
        kept = (18, 13, 4, 7)
        self.assertEqual(label_problem(FRAME, layers, (first, second, second), 1)[1], (kept,))
        self.assertEqual(texts_and_places(layers, (first, second, second), 1), [("c", 1)])
        other = (18, 31, 4, 7)
        self.assertEqual(label_problem(FRAME, layers, (first, second, second), 2), (AREA, (kept, other), ()))

    def test_avoided_layers_come_before_kept_labels(self):
        table = table_of((20, 25, "b", None))
        layers = (points(tag("s", "above", "above")), points(tag("s", "above", "below", avoid=(1,))))
        self.assertEqual(label_problem(FRAME, layers, (table, table), 1)[1], ((17, 22, 7, 7), (18, 13, 4, 7)))

    def test_later_layers_play_no_part(self):
        table = table_of((20, 25, "b", None))
        layers = (points(tag("s")), points(tag("s")))
        self.assertEqual(label_problem(FRAME, layers, (table, table), 0)[1], ())


class PlaceTest(unittest.TestCase):
    def test_each_side(self):
        table = table_of((25, 25, "a", None))
        for side, place in (("above", (23, 13)), ("below", (23, 31)), ("left", (16, 22)), ("right", (31, 22)),
                            ("center", (23, 22))):
            found = label_marks(FRAME, (points(tag("s", side, side)),), (table,), 0)
            self.assertEqual([item[4] for item in found], [place])

    def test_the_second_side(self):
        # Above the first point there is no room for a label, nor beside it on the left.
        table = table_of((10, 45, "abc", None))
        for first, second, place in (("above", "below", 1), ("below", "above", 0), ("left", "right", 1)):
            self.assertEqual(texts_and_places((points(tag("s", first, second)),), (table,)), [("abc", place)])

    def test_both_sides_the_same(self):
        table = table_of((25, 25, "a", None), (25, 25, "b", None))
        found = labels_of(FRAME, (points(tag("s", "above", "above")),), (table,), 0)
        # Either choice of the second label forces that of the first one on the same side to be the other one.
        self.assertEqual([label[4] for label in found],
                         [0, (((1, 0), (0, 0), (1, 1)), ((1, 1), (0, 0), (1, 0)))])

    def test_the_places_are_those_of_the_problem(self):
        table = table_of(*[(number * 3, 25 + number % 3, "text", None) for number in range(14)])
        layers = (points(tag("s", "above", "right", keys=(("n", True),), avoid=(0,))),)
        found = labels_of(FRAME, layers, (table,), 0)
        task = label_problem(FRAME, layers, (table,), 0)
        self.assertEqual(tuple(label[4] for label in found), place_labels(task))
        self.assertEqual(tuple(label[2:4] for label in found), task[2])


class LabelMarkTest(unittest.TestCase):
    def fills(self, layer, *rows, frame=FRAME):
        return [item[6] for item in label_marks(frame, (layer,), (table_of(*rows),), 0)]

    def test_what_a_primitive_has(self):
        frame = (2, FIFTY, FIFTY, "plain", ())
        tables = (table_of(), table_of((25, 25, "ab", None)))
        self.assertEqual(label_marks(frame, (points(None), points(tag("s"))), tables, 1),
                         ((2, "label 1", "1", "text start", (21, 13), "ab", "#000000", None, None),))

    def test_in_the_order_of_the_labels_without_those_that_are_left_out(self):
        table = table_of((10, 10, "a", None), (11, 10, "b", None), (40, 10, "c", None))
        layers = (points(tag("s", "above", "above", keys=(("n", True),))),)
        self.assertEqual([item[5] for item in label_marks(FRAME, layers, (table,), 0)], ["c", "b"])

    def test_the_center_of_a_mark_with_a_fill(self):
        row = (25, 25, "u", None)
        for paint in ("#3a6ea8", "#eedd33", "#ffffff", "#000000", "#222222"):
            self.assertEqual(self.fills(points(tag("s", "center", "center"), paint=paint), row), [text_color(paint)])
            self.assertEqual(self.fills(points(tag("s", "above", "center"), paint=paint), row), ["#000000"])
        self.assertEqual(self.fills(points(tag("s", "center", "center"), ("color", S)), (25, 25, "v", None)),
                         [text_color("#e5832f")])

    def test_the_center_as_the_second_side(self):
        row = (25, 50, "u", None)
        self.assertEqual(self.fills(points(tag("s", "above", "center"), paint="#000000"), (25, 38, "u", None)), ["#000000"])
        self.assertEqual(self.fills(points(tag("s", "above", "center"), paint="#000000"), (25, 39, "u", None)), ["#ffffff"])
        self.assertEqual(self.fills(points(tag("s", "above", "center"), paint="#000000"), row), [])

    def test_the_center_of_a_mark_without_a_fill(self):
        rule = layer_of("rule", ("y", N), paint="#000000", label=tag("s", "center", "center"))
        self.assertEqual(self.fills(rule, (25, None, "u", None)), ["#000000"])

    def test_bars_and_texts(self):
        bar = layer_of("bar", ("x", S), ("y", N), paint="#000000", label=tag("n", "center", "above"))
        frame = (0, ("band", ("u", "v"), 50, False, False), FIFTY, "plain", ())
        self.assertEqual(self.fills(bar, (25, None, "u", None), frame=frame), ["#ffffff"])
        self.assertEqual([item[4] for item in label_marks(frame, (bar,), (table_of((25, None, "u", None)),), 0)],
                         [(8, 34)])
        text = layer_of("text", ("x", N), ("y", M), ("text", S), paint="#222222", label=tag("n", "center", "center"))
        self.assertEqual(self.fills(text, (25, 25, "u", None)), ["#ffffff"])

    def test_an_empty_text(self):
        found = label_marks(FRAME, (points(tag("s")),), (table_of((25, 25, "", None)),), 0)
        self.assertEqual([item[4:6] for item in found], [((25, 13), "")])


class RandomTest(unittest.TestCase):
    def test_no_two_labels_of_marks_in_a_plot_overlap(self):
        random = Random(265)
        seen = 0
        for _ in range(1500):
            spec, data = some_chart(random, views=1, layers=random.choice((1, 2, 3)))
            tables = layer_tables(spec, data, 0)
            frame = frame_of(spec, 0, tables)[0]
            layers = spec[2][0][6]
            found = [around(*item[3:6]) for number in range(len(layers))
                     for item in label_marks(frame, layers, tables, number)]
            seen += len(found)
            for at, box in enumerate(found):
                self.assertFalse([other for other in found[:at] if share_pixels(box, other)])
        self.assertGreater(seen, 80)

    def test_against_the_words_of_the_document(self):
        random = Random(264)
        for _ in range(400):
            spec, data = some_chart(random, views=1, layers=2)
            tables = layer_tables(spec, data, 0)
            frame = frame_of(spec, 0, tables)[0]
            layers = spec[2][0][6]
            for number, layer in enumerate(layers):
                self.assertEqual(labels_of(frame, layers, tables, number), expected_labels(frame, layers, tables, number))

    def test_arguments_stay_as_they_are(self):
        table = table_of((10, 10, "a", None), (11, 10, "b", None))
        layers = (points(tag("s", keys=(("n", True),), avoid=(0,))),)
        before = copy.deepcopy((FRAME, layers, table))
        label_marks(FRAME, layers, (table,), 0)
        self.assertEqual((FRAME, layers, table), before)


def expected_labels(frame, layers, tables, number):
    """The labels of a layer with a point of each kind of mark, found by the primitives of the layers."""
    layer, (columns, rows) = layers[number], tables[number]
    if layer[5] is None:
        return ()
    name, keys, first, second, avoid = layer[5]
    names = [each for each, _ in columns]
    marks = {item[2]: around(*item[3:6]) for item in layer_marks(frame, number, layer, tables[number])}
    found = [row for row in rows if key_text(row[0]) in marks and row[1][names.index(name)] is not None]
    for key, descending in reversed(keys):
        place = names.index(key)
        present = [row for row in found if row[1][place] is not None]
        present.sort(key=lambda row: value_of(row[1][place]), reverse=descending)
        found = present + [row for row in found if row[1][place] is None]
    obstacles = [around(*item[3:6]) for other in avoid for item in layer_marks(frame, other, layers[other], tables[other])]
    for earlier in range(number):
        obstacles += [around(*item[3:6]) for item in label_marks(frame, layers, tables, earlier)]
    labels = []
    for row in found[:16]:
        text = row[1][names.index(name)]
        text = text if isinstance(text, str) else key_text((text,))
        boxes = tuple(side_rectangle(marks[key_text(row[0])], side, text_width(text)) for side in (first, second))
        labels.append((key_text(row[0]), text) + boxes)
    task = ((0, 0, frame[1][2] + 1, frame[2][2] + 1), tuple(obstacles), tuple(label[2:] for label in labels))
    return tuple(label + (place,) for label, place in zip(labels, place_labels(task)))


def value_of(cell):
    """What orders cells of one kind."""
    return cell[0] / cell[1] if isinstance(cell, tuple) else cell


if __name__ == "__main__":
    unittest.main()
