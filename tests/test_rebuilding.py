"""Points 307, 308 and 309, with the example of point 310 and with points 80 and 184."""

import copy
import unittest
from fractions import Fraction
from itertools import product
from math import ceil, floor
from random import Random

from samples import (PLAIN, SMALL_DATA, SMALL_SPEC, band_scale, chart_of, column, constant, layer_of, linear_scale,
                     numbered, pair, some_chart, view_of, whole)

from chartspec.channels import can_read, shown_channels
from chartspec.checking import last_columns
from chartspec.drawing import draw
from chartspec.errors import NotReadable
from chartspec.fractions import compare
from chartspec.pictures import hit
from chartspec.readings import plot_area, read_frame, read_layer
from chartspec.rebuilding import rebuilt, row_at, simplest
from chartspec.rulers import range_of
from chartspec.scenes import keyless, without_keys
from chartspec.series import layer_marks

COLUMNS = (("n", "number"), ("m", "number"), ("s", "text"))
TABLES = (("t", COLUMNS),)
N, M, S = (column(name) for name in "nms")
SHORT = linear_scale("from", (0, 1), (4, 1))


def rows_of(*rows):
    return (numbered(*[whole(*row[:2]) + tuple(row[2:]) for row in rows]),)


def spec_of(*layers, **view):
    found = {"size": (40, 40), "x": SHORT, "y": SHORT, "color": ("plain", ("of", ("u", "v")), None), **view}
    return chart_of(view_of(*layers, **found), tables=TABLES)


def simplest_by_trying(low, high, closed):
    """The simplest fraction of a span, found by trying denominators."""
    denominator = 1
    while True:
        found = [Fraction(number, denominator)
                 for number in range(floor(low * denominator), ceil(high * denominator) + 1)]
        found = [value for value in found if low <= value < high or closed and value == high]
        if found:
            return min(found, key=abs)
        denominator += 1


class SimplestTest(unittest.TestCase):
    def test_the_example(self):
        self.assertEqual(simplest(((13, 10), (7, 5), False)), (4, 3))
        self.assertEqual(simplest(((19, 4), (21, 4), False)), (5, 1))

    def test_the_ends(self):
        self.assertEqual(simplest(((1, 3), (1, 2), False)), (1, 3))
        self.assertEqual(simplest(((1, 3), (1, 2), True)), (1, 2))
        self.assertEqual(simplest(((1, 2), (1, 1), False)), (1, 2))
        self.assertEqual(simplest(((1, 2), (1, 1), True)), (1, 1))
        self.assertEqual(simplest(((2, 5), (3, 7), True)), (2, 5))

    def test_integers(self):
        self.assertEqual(simplest(((3, 1), (9, 1), False)), (3, 1))
        self.assertEqual(simplest(((5, 2), (9, 1), False)), (3, 1))
        self.assertEqual(simplest(((-1, 2), (9, 1), False)), (0, 1))
        self.assertEqual(simplest(((0, 1), (1, 7), False)), (0, 1))

    def test_below_zero(self):
        self.assertEqual(simplest(((-9, 1), (-3, 1), False)), (-4, 1))
        self.assertEqual(simplest(((-9, 1), (-3, 1), True)), (-3, 1))
        self.assertEqual(simplest(((-1, 3), (0, 1), True)), (0, 1))
        self.assertEqual(simplest(((-1, 3), (0, 1), False)), (-1, 3))
        self.assertEqual(simplest(((-7, 5), (-13, 10), False)), (-4, 3))
        self.assertEqual(simplest(((-1, 2), (-1, 3), False)), (-1, 2))
        self.assertEqual(simplest(((-1, 2), (-1, 3), True)), (-1, 2))
        self.assertEqual(simplest(((-3, 7), (-2, 5), False)), (-3, 7))

    def test_all_small_spans(self):
        ends = sorted({Fraction(number, below) for below in range(1, 8) for number in range(-2 * below, 2 * below + 1)})
        for low, high in product(ends, ends):
            if low < high:
                for closed in (False, True):
                    self.assertEqual(simplest((pair(low), pair(high), closed)), pair(simplest_by_trying(low, high, closed)))

    def test_random_spans(self):
        random = Random(307)
        for _ in range(2000):
            low = Fraction(random.randint(-400, 400), random.randint(1, 99))
            high = low + Fraction(random.randint(1, 40), random.randint(1, 999))
            closed = random.random() < 0.5
            self.assertEqual(simplest((pair(low), pair(high), closed)), pair(simplest_by_trying(low, high, closed)))

    def test_large_spans(self):
        many = 10 ** 59
        low, high = Fraction(many + 1, many), Fraction(many + 3, many)
        found = Fraction(*simplest((pair(low), pair(high), False)))
        self.assertTrue(low <= found < high)
        self.assertEqual(found, 1 + Fraction(1, -(-many // 3) if many % 3 else many // 3 + 1))
        # The golden ratio has the longest continued fraction.
        fibonacci = [1, 1]
        while fibonacci[-1] < many:
            fibonacci.append(fibonacci[-1] + fibonacci[-2])
        low, high = sorted((Fraction(fibonacci[-1], fibonacci[-2]), Fraction(fibonacci[-2], fibonacci[-3])))
        self.assertEqual(simplest((pair(low), pair(high), True)), (fibonacci[-2], fibonacci[-3]))

    def test_the_ranges_of_rulers(self):
        for backwards, first, last in product((False, True), range(7), range(7)):
            ruler = ("linear", ((-7, 3), (5, 2)), 6, backwards, False)
            if first <= last:
                low, high, closed = range_of(ruler, first, last)
                self.assertEqual(simplest((low, high, closed)),
                                 pair(simplest_by_trying(Fraction(*low), Fraction(*high), closed)))


class RebuiltTest(unittest.TestCase):
    def rebuilt(self, layer, *rows, **view):
        spec = spec_of(layer, **view)
        return rebuilt(without_keys(draw(spec, rows_of(*rows))), spec, 0, 0)

    def test_the_example(self):
        self.assertEqual(rebuilt(draw(SMALL_SPEC, SMALL_DATA), SMALL_SPEC, 0, 0), (((5, 1), "q"),))

    def test_the_columns_that_no_channel_shows(self):
        layer = layer_of("point", ("y", M), ("x", constant((1, 1))))
        self.assertEqual(self.rebuilt(layer, (1, 2, "u"), (3, None, "u"), (9, 4, "v")),
                         ((None, (2, 1), None), (None, (4, 1), None)))

    def test_all_marks(self):
        row = (1, 3, "u")
        self.assertEqual(self.rebuilt(layer_of("point", ("x", N), ("y", M), ("color", S)), row), (((1, 1), (3, 1), "u"),))
        self.assertEqual(self.rebuilt(layer_of("text", ("x", N), ("y", M), ("text", S)), row), (((1, 1), (3, 1), "u"),))
        self.assertEqual(self.rebuilt(layer_of("rule", ("y", M)), row), ((None, (3, 1), None),))
        self.assertEqual(self.rebuilt(layer_of("bar", ("x", S), ("y", M), ("y2", N)), row, x=band_scale("of", ("u",))),
                         (((1, 1), (3, 1), "u"),))
        self.assertEqual(self.rebuilt(layer_of("line", ("x", N), ("y", M), ("color", S)), row, (2, 2, "v"), (3, 1, "u")),
                         (((1, 1), (3, 1), "u"), ((3, 1), (1, 1), "u"), ((2, 1), (2, 1), "v")))

    def test_the_columns_of_the_last_table(self):
        sums = ("group", ("s",), (("k", "count", None), ("t", "sum", "n")))
        layer = layer_of("bar", ("x", S), ("y", column("t")), transforms=(sums,))
        bands = band_scale("fit", axis=("", False, PLAIN))
        self.assertEqual(self.rebuilt(layer, (1, 3, "v"), (1, 3, "u"), (2, 3, "v"), x=bands),
                         (("u", None, (1, 1)), ("v", None, (3, 1))))

    def test_numbers_between_pixels(self):
        layer = layer_of("rule", ("x", N))
        self.assertEqual(self.rebuilt(layer, (17, 0, "u"), x=linear_scale("from", (0, 1), (100, 1)), size=(7, 40)),
                         (((8, 1), None, None),))
        third = ("derive", "k", ("/", N, ("cell", (3, 1))))
        layer = layer_of("rule", ("x", column("k")), transforms=(third,))
        self.assertEqual(self.rebuilt(layer, (5, 0, "u")), ((None, None, None, (5, 3)),))

    def test_categories_of_numbers_stay(self):
        layer = layer_of("rule", ("x", N), ("color", M))
        cells = ((7, 1), (-1, 3))
        spec = spec_of(layer, x=band_scale("of", cells), color=("plain", ("of", whole(5)), None))
        self.assertEqual(rebuilt(draw(spec, (((1, (cells[1], (5, 1), None)),),)), spec, 0, 0), ((cells[1], (5, 1), None),))

    def test_no_marks(self):
        self.assertEqual(self.rebuilt(layer_of("point", ("x", N), ("y", M)), (9, 9, "u")), ())


class NotReadableTest(unittest.TestCase):
    def refuse(self, channel, layer, **view):
        spec = spec_of(layer, **view)
        scene = draw(spec, rows_of((1, 2, "u")))
        with self.assertRaises(NotReadable) as caught:
            rebuilt(scene, spec, 0, 0)
        self.assertEqual(caught.exception.name, channel)
        self.assertEqual(len(read_layer(scene, spec, 0, 0)), 1)

    def test_channels_that_cannot_be_read(self):
        hidden, clamped = linear_scale("fit"), linear_scale("from", (0, 1), (4, 1), clamped=True)
        given = (("y", M), ("x", N), ("color", S))
        self.refuse("x", layer_of("point", *given), x=hidden)
        self.refuse("x", layer_of("point", *given), x=clamped)
        self.refuse("y", layer_of("point", *given), y=hidden)
        self.refuse("x", layer_of("point", *given), x=hidden, y=hidden)
        self.refuse("color", layer_of("point", *given), color=("plain", ("fit",), None))
        self.refuse("detail", layer_of("line", ("x", N), ("y", M), ("detail", S)))
        self.refuse("color", layer_of("line", ("detail", S), ("color", S), ("x", N), ("y", M)),
                    color=("plain", ("fit",), None))
        self.refuse("x2", layer_of("rule", ("x2", N), ("y", M), ("x", constant((1, 1)))), x=hidden)

    def test_one_column_for_two_channels(self):
        self.refuse("y", layer_of("point", ("x", N), ("y", N)))
        self.refuse("x2", layer_of("rule", ("x2", N), ("x", N), ("y", M), ("y2", M)))
        self.refuse("y", layer_of("rule", ("x", N), ("x2", M), ("y", M)))
        self.refuse("text", layer_of("text", ("x", N), ("y", M), ("text", S), ("color", S)))
        self.refuse("y2", layer_of("rule", ("x", N), ("y", M), ("y2", N)))

    def test_the_first_one_in_the_order_of_the_channels(self):
        self.refuse("x2", layer_of("rule", ("x", N), ("x2", N), ("y", M)), y=linear_scale("fit"))
        self.refuse("y", layer_of("point", ("x", N), ("y", N), ("color", S)), color=("plain", ("fit",), None))
        self.refuse("x", layer_of("point", ("x", N), ("y", N)), x=linear_scale("fit"))

    def test_also_without_rows(self):
        spec = spec_of(layer_of("point", ("x", N), ("y", N)))
        with self.assertRaises(NotReadable):
            rebuilt(draw(spec, ((),)), spec, 0, 0)

    def test_constants_are_not_shown(self):
        layer = layer_of("line", ("x", N), ("y", constant((1, 1))), ("detail", constant("a")))
        spec = spec_of(layer, y=linear_scale("fit"))
        self.assertEqual(rebuilt(draw(spec, rows_of((1, 2, "u"))), spec, 0, 0), (((1, 1), None, None),))


class DrawnAgainTest(unittest.TestCase):
    def test_rebuilt_rows_are_drawn_like_the_marks_in_the_scene(self):
        random = Random(308)
        drawn = {}
        for _ in range(1500):
            spec, data = some_chart(random)
            scene = draw(spec, data)
            for number, view in enumerate(spec[2]):
                for at, layer in enumerate(view[6]):
                    if self.promised(spec, scene, number, layer):
                        self.draw_again(spec, scene, number, at)
                        drawn[layer[2]] = drawn.get(layer[2], 0) + 1
        self.assertGreater(min(drawn.values()), 10)
        self.assertEqual(len(drawn), 5)

    def promised(self, spec, scene, number, layer):
        """True if point 308 promises something for a layer."""
        sources = dict(layer[3])
        shown = shown_channels(layer)
        readable = all(can_read(spec, number, channel) for channel in shown)
        if not readable or len({sources[channel] for channel in shown}) < len(shown):
            return False
        if None in read_frame(scene, spec, number) or plot_area(scene, number) is None:
            return False
        if layer[2] == "bar":
            for first, second in (("x", "x2"), ("y", "y2")):
                if second in sources and sources[first][0] != sources[second][0]:
                    return False
        color = spec[2][number][5]
        legend = color[2] is not None and any(
            ("color", "column") == (channel, source[0]) for other in spec[2][number][6] for channel, source in other[3])
        return legend or color[1][0] == "of" or sources.get("color", ("column",))[0] == "column"

    def draw_again(self, spec, scene, number, at):
        before = copy.deepcopy((scene, spec))
        rows = rebuilt(scene, spec, number, at)
        self.assertEqual((scene, spec), before)
        table = (last_columns(spec, number, at),
                 tuple((((place, 1),), cells, (place,)) for place, cells in enumerate(rows, 1)))
        marks = layer_marks(read_frame(scene, spec, number), at, spec[2][number][6][at], table)
        left, top, _, _ = plot_area(scene, number)
        there = [item for item in scene[2] if item[:2] == (number, f"mark {at}")]
        self.assertEqual([moved(item, left, top) for item in keyless(marks)], list(keyless(there)))


def moved(item, left, top):
    """A primitive of a plot with its upper left corner at (left, top)."""
    count = len(item[4]) if item[3] in ("line", "polyline") else 2
    points = tuple(value + (left, top)[at % 2] if at < count else value for at, value in enumerate(item[4]))
    return item[:4] + (points,) + item[5:8] + ((item[8][0] + left, item[8][1] + top) + item[8][2:],)


class RowAtTest(unittest.TestCase):
    def test_the_example(self):
        self.assertEqual(row_at(draw(SMALL_SPEC, SMALL_DATA), SMALL_SPEC, 20, 15),
                         (0, 0, 0, (((19, 4), (21, 4), False), "q")))

    point = layer_of("point", ("x", N), ("y", M))

    def test_the_last_primitive_that_paints_the_pixel(self):
        spec = spec_of(self.point, layer_of("rule", ("x", N), paint="#ffffff"))
        scene = without_keys(draw(spec, rows_of((1, 1, "a"), (1, 3, "b"), (1, 3, "c"), (2, 1, "d"))))
        read = [read_layer(scene, spec, 0, layer) for layer in (0, 1)]
        # The places of the first points are (20, 40) and (20, 20) on the page, and the rules at x = 20 lie over them.
        self.assertEqual(row_at(scene, spec, 20, 20), (0, 1, 2, read[1][2]))
        self.assertEqual(row_at(scene, spec, 19, 20), (0, 0, 2, read[0][2]))
        self.assertEqual(row_at(scene, spec, 19, 40), (0, 0, 0, read[0][0]))
        self.assertEqual(row_at(scene, spec, 30, 12), (0, 1, 3, read[1][3]))

    def test_where_there_is_no_mark(self):
        spec = spec_of(self.point)
        scene = draw(spec, rows_of((0, 0, "a")))
        self.assertIsNotNone(row_at(scene, spec, 10, 50))
        for x, y in ((9, 50), (30, 30), (0, 0), (-1, 50), (10, 61), (10, 99), (61, 10)):
            self.assertIsNone(row_at(scene, spec, x, y))

    def test_a_mark_under_another_primitive(self):
        axis = linear_scale("from", (0, 1), (4, 1), axis=("", True, PLAIN))
        spec = spec_of(self.point, x=axis)
        scene = draw(spec, rows_of((0, 0, "a"), (2, 2, "b")))
        left, top, _, _ = plot_area(scene, 0)
        self.assertEqual(hit(scene, left, top + 40), (0, "x tick", "0"))
        self.assertIsNone(row_at(scene, spec, left, top + 40))
        self.assertEqual(row_at(scene, spec, left, top + 39)[:3], (0, 0, 0))
        # Grid lines lie below the marks.
        self.assertEqual(row_at(scene, spec, left + 20, top + 20)[:3], (0, 0, 1))

    def test_the_view_of_the_mark(self):
        view = {"size": (40, 40), "x": SHORT, "y": SHORT}
        spec = chart_of(view_of(self.point, name="a", **view), view_of(self.point, name="b", **view), tables=TABLES)
        scene = draw(spec, rows_of((0, 0, "a"), (2, 2, "b")))
        self.assertEqual([row_at(scene, spec, plot_area(scene, number)[0] + 20, 30)[:3] for number in (0, 1)],
                         [(0, 0, 1), (1, 0, 1)])

    def test_a_scene_without_its_background(self):
        spec = spec_of(self.point)
        width, height, items = draw(spec, rows_of((0, 0, "a")))
        self.assertEqual(row_at((width, height, items[1:]), spec, 10, 50)[:3], (0, 0, 0))
        self.assertIsNone(row_at((width, height, items[1:]), spec, 30, 30))

    def test_a_line(self):
        line = layer_of("line", ("x", N), ("y", M))
        spec = spec_of(self.point, line)
        scene = draw(spec, rows_of((0, 0, "a"), (4, 4, "b")))
        self.assertIsNone(row_at(scene, spec, 30, 30))
        self.assertIsNone(row_at(scene, spec, 10, 50))
        self.assertEqual(row_at(scene, spec, 11, 50)[:3], (0, 0, 0))

    def test_outside_the_page_and_outside_a_clip(self):
        spec = spec_of(self.point)
        width, height, items = draw(spec, rows_of((0, 0, "a"), (4, 4, "b")))
        self.assertIsNone(row_at((width, height, items), spec, 9, 50))
        small = (20, height, items)
        self.assertEqual(row_at(small, spec, 10, 50)[:3], (0, 0, 0))
        self.assertIsNone(row_at(small, spec, 50, 10))
        self.assertIsNotNone(row_at((width, height, items), spec, 50, 10))

    def test_texts_bars_and_rules(self):
        text = layer_of("text", ("x", N), ("y", M), ("text", S))
        bar = layer_of("bar", ("x", N), ("x2", constant((4, 1))), ("y", M))
        spec = chart_of(view_of(name="a"), view_of(bar, text, layer_of("rule", ("y", N)), name="b", size=(40, 40), x=SHORT,
                                                   y=SHORT), tables=TABLES)
        scene = draw(spec, rows_of((2, 3, "a b"), (3, 1, "c")))
        left, top, _, _ = plot_area(scene, 1)
        rows = [read_layer(scene, spec, 1, layer) for layer in range(3)]
        self.assertEqual(row_at(scene, spec, left + 15, top + 9), (1, 1, 0, rows[1][0]))
        # Between the letters of the text.
        self.assertIsNone(row_at(scene, spec, left + 19, top + 9))
        self.assertEqual(row_at(scene, spec, left + 25, top + 35), (1, 0, 0, rows[0][0]))
        self.assertEqual(row_at(scene, spec, left + 32, top + 35), (1, 0, 1, rows[0][1]))
        self.assertEqual(row_at(scene, spec, left, top + 20), (1, 2, 0, rows[2][0]))

    def test_the_hits_of_all_pixels(self):
        random = Random(309)
        for _ in range(40):
            spec, data = some_chart(random)
            scene = draw(spec, data)
            for _ in range(40):
                x, y = random.randrange(-1, scene[0] + 1), random.randrange(-1, scene[1] + 1)
                name = hit(scene, x, y)
                found = row_at(scene, spec, x, y)
                self.assertEqual(row_at(without_keys(scene), spec, x, y), found)
                layers = [] if name is None or name[0] is None else spec[2][name[0]][6]
                lines = [f"mark {at}" for at, layer in enumerate(layers) if layer[2] == "line"]
                if name is None or not name[1].startswith("mark") or name[1] in lines:
                    self.assertIsNone(found)
                    continue
                layer = int(name[1].split()[1])
                marks = [item[:3] for item in scene[2] if item[:2] == name[:2]]
                rows = read_layer(scene, spec, name[0], layer)
                self.assertEqual(found, (name[0], layer, marks.index(name), rows[marks.index(name)]))

    def test_a_span_of_the_row(self):
        low, high, closed = row_at(draw(SMALL_SPEC, SMALL_DATA), SMALL_SPEC, 20, 15)[3][0]
        self.assertEqual((compare(low, (5, 1)), compare((5, 1), high), closed), (-1, -1, False))


if __name__ == "__main__":
    unittest.main()
