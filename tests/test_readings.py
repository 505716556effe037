"""Points 302 to 306, with points 123, 183, 206 and 301."""

import copy
import unittest
from random import Random

from samples import (PLAIN, SMALL_DATA, SMALL_SPEC, band_scale, chart_of, column, constant, layer_of, linear_scale,
                     numbered, some_chart, some_primitive, view_of, whole)

from chartspec.drawing import draw, layer_tables
from chartspec.guides import frame_of
from chartspec.readings import plot_area, read_back, read_categories, read_frame, read_layer, read_ruler
from chartspec.reports import reported
from chartspec.scenes import without_keys

COLUMNS = (("n", "number"), ("m", "number"), ("s", "text"), ("p", "boolean"))
TABLES = (("t", COLUMNS),)
N, M, S, P = (column(name) for name in "nmsp")
POINT = layer_of("point", ("x", N), ("y", M))
SHORT = linear_scale("from", (0, 1), (4, 1))
MARK_ROLES = ("mark 0", "mark 1", "mark 2", "mark 3")
KEPT_ROLES = MARK_ROLES + ("x tick label", "y tick label", "legend label")


def shown(title="", grid=False, style=PLAIN):
    return (title, grid, style)


def rows_of(*rows):
    return (numbered(*[whole(*row[:2]) + tuple(row[2:]) for row in rows]),)


def spec_of(*layers, **view):
    found = {"size": (4, 4), "x": SHORT, "y": SHORT, "color": ("plain", ("of", ("u", "v")), None), **view}
    return chart_of(view_of(*layers, **found), tables=TABLES)


def scene_of(spec, *rows):
    return draw(spec, rows_of(*rows))


def keyless_marks_and_labels(scene):
    """The scene without all primitives that may be missing, and without keys."""
    width, height, items = without_keys(scene)
    return (width, height, tuple(item for item in items if item[1] in KEPT_ROLES))


class ExampleTest(unittest.TestCase):
    drawn = draw(SMALL_SPEC, SMALL_DATA)

    def test_the_interface(self):
        self.assertEqual(read_back(without_keys(self.drawn), SMALL_SPEC), ((((((19, 4), (21, 4), False), "q"),),),))
        self.assertEqual(plot_area(self.drawn, 0), (10, 10, 21, 21))

    def test_point_310(self):
        self.assertEqual(read_layer(self.drawn, SMALL_SPEC, 0, 0), ((((19, 4), (21, 4), False), "q"),))
        self.assertEqual(self.drawn[2][1][4], (20, 15, 3))


class PlotAreaTest(unittest.TestCase):
    def test_the_clip_of_the_first_mark(self):
        spec = chart_of(view_of(POINT, name="a", x=SHORT, size=(9, 7)), view_of(name="b"),
                        view_of(layer_of("rule", ("x", constant((99, 1)))), POINT, name="c", x=SHORT, size=(4, 5)),
                        tables=TABLES)
        scene = scene_of(spec, (1, 1, "u", None))
        self.assertEqual([plot_area(scene, number) for number in range(3)], [(10, 10, 10, 8), None, (81, 10, 5, 6)])

    def test_without_marks(self):
        scene = scene_of(spec_of(POINT), (9, 9, "u", None))
        self.assertIsNone(plot_area(scene, 0))
        self.assertEqual(read_back(scene, spec_of(POINT)), (((),),))

    def test_other_roles_play_no_part(self):
        spec = spec_of(POINT, POINT)
        width, height, items = scene_of(spec, (1, 1, "u", None))
        other = [(0, role, "", "circle", (0, 0, 1), "", "#000000", None, (1, 2, 3, 4))
                 for role in ("mark 4", "mark", "mark 00", "mark 10", "label 0", "background")]
        scene = (width, height, tuple(other) + items)
        self.assertEqual(plot_area(scene, 0), (10, 10, 5, 5))
        self.assertEqual(read_back(scene, spec), reported(spec, rows_of((1, 1, "u", None))))

    def test_the_first_mark_can_be_that_of_the_last_layer(self):
        spec = spec_of(POINT, POINT, POINT, layer_of("rule", ("x", N)))
        scene = scene_of(spec, (1, None, "u", None))
        self.assertEqual([item[1] for item in scene[2]], ["background", "mark 3"])
        self.assertEqual(plot_area(scene, 0), (10, 10, 5, 5))
        self.assertEqual(read_back(scene, spec), reported(spec, rows_of((1, None, "u", None))))

    def test_the_first_mark_can_be_that_of_another_layer(self):
        spec = spec_of(POINT, layer_of("rule", ("x", N)))
        scene = scene_of(spec, (1, None, "u", None))
        self.assertEqual([item[1] for item in scene[2]], ["background", "mark 1"])
        self.assertEqual(plot_area(scene, 0), (10, 10, 5, 5))


class ReadRulerTest(unittest.TestCase):
    def ruler(self, scale, *rows, kind="linear", layer=None):
        """The ruler that is read for a scale on the x axis, which is that of the frame; read on the y axis, too."""
        source = N if kind == "linear" else S
        x = spec_of(layer or layer_of("rule", ("x", source)), size=(40, 9), x=scale)
        y = spec_of(layer_of("rule", ("y", source)), size=(9, 40), y=scale)
        scene = keyless_marks_and_labels(scene_of(x, *rows))
        found = read_ruler(scene, x, 0, "x")
        self.assertEqual(read_ruler(keyless_marks_and_labels(scene_of(y, *rows)), y, 0, "y"), found)
        return found

    rows = ((3, None, "b", None), (17, None, "a", None))

    def test_declared_domains(self):
        for axis in (None, shown()):
            scale = linear_scale("from", (1, 3), (9, 1), backwards=True, clamped=True, axis=axis)
            self.assertEqual(self.ruler(scale, *self.rows), ("linear", ((1, 3), (9, 1)), 40, True, True))
            scale = band_scale("of", ("b", "c"), axis=axis)
            self.assertEqual(self.ruler(scale, *self.rows, kind="band"), ("band", ("b", "c"), 40, False, False))

    def test_fitted_domains(self):
        for backwards in (False, True):
            scale = linear_scale("fit", backwards=backwards, axis=shown())
            self.assertEqual(self.ruler(scale, *self.rows), ("linear", whole(0, 20), 40, backwards, False))
            scale = linear_scale("zero", backwards=backwards, axis=shown(), clamped=True, ticks=2)
            self.assertEqual(self.ruler(scale, (-3, None, "b", None)), ("linear", whole(-4, 0), 40, backwards, True))
            scale = band_scale("fit", backwards=backwards, axis=shown())
            self.assertEqual(self.ruler(scale, *self.rows, kind="band"), ("band", ("a", "b"), 40, backwards, False))

    def test_hidden_axes_with_fitted_domains(self):
        for scale, kind in ((linear_scale("fit"), "linear"), (linear_scale("zero"), "linear"), (band_scale("fit"), "band")):
            self.assertIsNone(self.ruler(scale, *self.rows, kind=kind))

    def test_labels_in_a_format(self):
        # With a tick at 0 there are always three ticks, so the last candidate is taken: 2000000 is the first step.
        scale = linear_scale("fit", axis=shown("", False, ("$", " k", True)), ticks=1)
        self.assertEqual(self.ruler(scale, (-1234567, None, "b", None), (4000, None, "b", None)),
                         ("linear", whole(-10 ** 9, 10 ** 9), 40, False, False))

    def test_no_rows(self):
        self.assertEqual(self.ruler(linear_scale("fit", axis=shown())), ("linear", whole(0, 1), 40, False, False))
        self.assertEqual(self.ruler(band_scale("fit", axis=shown()), kind="band"), ("band", (), 40, False, False))

    def test_categories_of_each_kind(self):
        for source, cells in ((N, ((1, 2), (3, 1))), (P, (False, True)), (S, ("-", "1", "true"))):
            spec = spec_of(layer_of("rule", ("x", source)), x=band_scale("fit", axis=shown()), size=(40, 4))
            place = [name for name, _ in COLUMNS].index(source[1])
            rows = numbered(*[tuple(cell if at == place else None for at in range(4)) for cell in cells])
            scene = keyless_marks_and_labels(draw(spec, (rows,)))
            self.assertEqual(read_ruler(scene, spec, 0, "x")[1], cells)

    def test_the_labels_of_the_plot_alone(self):
        axis = linear_scale("fit", axis=shown(), ticks=1)
        first = ("filter", ("=", N, ("cell", (5, 1))))
        spec = chart_of(view_of(layer_of("rule", ("x", N)), name="a", x=axis),
                        view_of(layer_of("rule", ("x", N), transforms=(first,)), name="b", x=axis), tables=TABLES)
        scene = scene_of(spec, (0, 0, "a", None), (5, 0, "a", None), (50, 0, "a", None))
        self.assertEqual([read_ruler(scene, spec, number, "x")[1] for number in (0, 1)], [whole(0, 50), whole(5, 6)])


class ReadFrameTest(unittest.TestCase):
    def test_categories(self):
        layer = layer_of("point", ("x", N), ("y", M), ("color", S))
        rows = ((1, 1, "z", None), (1, 1, "k", None))
        for domain, legend, expected in ((("of", ("u", "z")), None, ("u", "z")), (("of", ("u", "z")), "", ("u", "z")),
                                         (("fit",), "", ("k", "z")), (("fit",), "Colors", ("k", "z")), (("fit",), None, ())):
            spec = spec_of(layer, color=("safe", domain, legend))
            scene = keyless_marks_and_labels(scene_of(spec, *rows))
            self.assertEqual(read_categories(scene, spec, 0), expected)
            self.assertEqual(read_frame(scene, spec, 0), (
                0, ("linear", whole(0, 4), 4, False, False), ("linear", whole(0, 4), 4, False, False), "safe", expected))

    def test_a_legend_that_is_not_there(self):
        layer = layer_of("point", ("x", N), ("y", M), ("color", constant("a")))
        spec = spec_of(layer, color=("safe", ("fit",), ""))
        self.assertEqual(read_categories(scene_of(spec, (1, 1, "a", None)), spec, 0), ())

    def test_categories_of_other_kinds(self):
        for source, expected in ((P, (False, True)), (N, whole(0, 1))):
            layer = layer_of("point", ("x", N), ("y", M), ("color", source))
            spec = spec_of(layer, color=("safe", ("fit",), ""))
            scene = scene_of(spec, (0, 1, "1", True), (1, 1, "0", False))
            self.assertEqual(read_categories(scene, spec, 0), expected)

    def test_from_the_ninth_category_on_nothing_is_read(self):
        layer = layer_of("point", ("x", N), ("y", M), ("color", S))
        spec = spec_of(layer, color=("safe", ("fit",), ""))
        scene = scene_of(spec, *[(1, 1, letter, None) for letter in "abcdefghij"])
        self.assertEqual(read_categories(scene, spec, 0), tuple("abcdefgh"))
        self.assertEqual(len(read_layer(scene, spec, 0, 0)), 8)

    def test_no_rulers(self):
        spec = chart_of(view_of(name="a"), view_of(POINT, x=linear_scale("fit"), y=linear_scale("zero")), tables=TABLES)
        self.assertEqual(read_frame(scene_of(spec, (1, 1, "a", None)), spec, 1), (1, None, None, "plain", ()))

    def test_the_frame_that_is_read_is_the_one_that_is_drawn(self):
        random = Random(303)
        for _ in range(300):
            spec, data = some_chart(random)
            scene = keyless_marks_and_labels(draw(spec, data))
            for number, (_, _, _, x, y, color, layers) in enumerate(spec[2]):
                frame = frame_of(spec, number, layer_tables(spec, data, number))[0]
                found = read_frame(scene, spec, number)
                for at, scale in ((1, x), (2, y)):
                    hidden = scale[5] is None and scale[1][0] in ("fit", "zero")
                    self.assertEqual(found[at], None if hidden else frame[at])
                colored = any(("color", "column") == (channel, source[0]) for layer in layers
                              for channel, source in layer[3])
                legend = color[1][0] == "of" or color[2] is not None and colored
                self.assertEqual(found[4], (frame[4] if color[1][0] == "of" else frame[4][:8]) if legend else ())


class ReadLayerTest(unittest.TestCase):
    def read(self, layer, *rows, **view):
        """The rows that are read for a layer, which are those of its report."""
        spec = spec_of(layer, **view)
        found = read_layer(keyless_marks_and_labels(scene_of(spec, *rows)), spec, 0, 0)
        self.assertEqual(found, reported(spec, rows_of(*rows))[0][0])
        return found

    one = ((1, 2), (3, 2), False)
    last = ((7, 2), (4, 1), True)

    def test_points(self):
        layer = layer_of("point", ("x", N), ("y", M), ("color", S))
        self.assertEqual(self.read(layer, (1, 4, "v", None), (1, 4, "w", None)), ((self.one, self.last, "v"),))

    def test_texts(self):
        for source, cells in ((S, ("1", "true", "")), (N, whole(0, 1, 2)), (P, (True, False, True))):
            layer = layer_of("text", ("x", constant((1, 1))), ("y", constant((4, 1))), ("text", source))
            rows = ((0, 0, "1", True), (1, 0, "true", False), (2, 0, "", True))
            self.assertEqual(self.read(layer, *rows), tuple((cell,) for cell in cells))
        layer = layer_of("text", ("x", N), ("y", M), ("text", constant("t")), ("color", S))
        self.assertEqual(self.read(layer, (1, 4, "u", None)), ((self.one, self.last, "u"),))

    def test_rules(self):
        for channels, expected in (
                ((("x", N),), (self.one,)), ((("y", N),), (self.one,)), ((("x", N), ("y", M)), (self.one, self.last)),
                ((("x", N), ("y", M), ("x2", M)), (self.one, self.last, self.last)),
                ((("x", N), ("y", M), ("y2", N)), (self.one, self.last, self.one)),
                ((("x", M), ("y", M), ("x2", N), ("y2", N)), (self.last, self.one, self.last, self.one)),
                ((("x", constant((2, 1))), ("y", constant((2, 1))), ("x2", N)), (self.one,)),
                ((("x", N), ("color", S)), (self.one, "u"))):
            self.assertEqual(self.read(layer_of("rule", *channels), (1, 4, "u", None)), (expected,))

    def test_lines_in_several_series(self):
        layer = layer_of("line", ("x", N), ("y", M), ("color", S), ("detail", P))
        found = self.read(layer, (1, 4, "u", None), (4, 1, "v", True), (1, 1, "u", None), (1, 1, "v", False))
        self.assertEqual(found, ((self.one, self.last, "u", None, 0), (self.one, self.one, "u", None, 0),
                                 (self.last, self.one, "v", None, 1), (self.one, self.one, "v", None, 2)))

    def test_bars_on_band_rulers(self):
        for backwards in (False, True):
            bands = band_scale("of", ("v", "u"), backwards=backwards)
            wide = {"x": bands, "size": (25, 4)}
            rows = ((4, None, "u", None), (0, None, "v", None), (1, None, "v", None))
            self.assertEqual([row[0] for row in self.read(layer_of("bar", ("x", S), ("y", N)), *rows, **wide)],
                             ["u", "v", "v"])
            high = {"y": bands, "size": (4, 25)}
            self.assertEqual([row[1] for row in self.read(layer_of("bar", ("x", N), ("y", S)), *rows, **high)],
                             ["u", "v", "v"])

    def test_bars_along(self):
        bands = band_scale("of", ("v", "u"))
        for domain in (((0, 1), (4, 1)), ((-2, 1), (2, 1)), ((1, 1), (5, 1)), ((-9, 1), (-5, 1))):
            for backwards in (False, True):
                scale = linear_scale("from", *domain, backwards=backwards)
                rows = [(number, None, "u", None) for number in range(-9, 6)]
                ends = [(low, high, "u", None) for low in range(-9, 6) for high in range(-9, 6)]
                self.assertEqual(len(self.read(layer_of("bar", ("x", S), ("y", N)), *rows, x=bands, y=scale)), 5)
                self.assertEqual(len(self.read(layer_of("bar", ("y", S), ("x", N)), *rows, y=bands, x=scale)), 5)
                for part in (ends[at:at + 40] for at in range(0, len(ends), 40)):
                    self.read(layer_of("bar", ("x", S), ("y", M), ("y2", N)), *part, x=bands, y=scale)
                    self.read(layer_of("bar", ("y", S), ("x", M), ("x2", N)), *part, y=bands, x=scale)
                    self.read(layer_of("bar", ("x", N), ("x2", M), ("y", constant(domain[1]))), *part, x=scale, y=scale)

    def test_bars_at_the_last_pixel(self):
        bands = band_scale("of", ("v",))
        self.assertEqual(self.read(layer_of("bar", ("x", S), ("y", N)), (4, None, "v", None), x=bands),
                         (("v", self.last),))
        layer = layer_of("bar", ("x", N), ("x2", M), ("y", N))
        self.assertEqual(self.read(layer, (4, 4, "v", None)), ((self.last, self.last, self.last),))

    def test_channels_that_cannot_be_read(self):
        layer = layer_of("point", ("x", N), ("y", M), ("color", S))
        row = (1, 4, "v", None)
        self.assertEqual(self.read(layer, row, x=linear_scale("fit")), ((None, self.last, "v"),))
        clamped = linear_scale("from", (0, 1), (4, 1), clamped=True, axis=shown())
        self.assertEqual(self.read(layer, row, y=clamped), ((self.one, None, "v"),))
        self.assertEqual(self.read(layer, row, color=("plain", ("fit",), None)), ((self.one, self.last, None),))
        bar = layer_of("bar", ("x", S), ("y", N))
        self.assertEqual(self.read(bar, row, x=band_scale("fit"), y=linear_scale("zero")), ((None, None),))
        self.assertEqual(self.read(bar, row, x=band_scale("fit", axis=shown()), y=linear_scale("zero"))[0][0], "v")

    def test_constants_alone(self):
        layer = layer_of("point", ("x", constant((1, 1))), ("y", constant((1, 1))))
        self.assertEqual(self.read(layer, (1, 1, "a", None), (2, 2, "b", None)), ((), ()))


class ReadBackTest(unittest.TestCase):
    def test_reading_finds_the_report(self):
        random = Random(302)
        for _ in range(600):
            spec, data = some_chart(random)
            scene = draw(spec, data)
            expected = reported(spec, data)
            self.assertEqual(read_back(scene, spec), expected)
            self.assertEqual(read_back(keyless_marks_and_labels(scene), spec), expected)

    def test_primitives_of_other_roles_may_be_changed_and_added(self):
        random = Random(304)
        for _ in range(200):
            spec, data = some_chart(random)
            width, height, items = draw(spec, data)
            changed = []
            for item in items:
                while random.random() < 0.4:
                    changed.append(some_primitive(random, random.choice((None, 0, 1, 2, 7)),
                                                  random.choice(("mark 4", "x tick", "label 0", "panel title", "")), "k"))
                if item[1] in KEPT_ROLES:
                    changed.append(item)
                elif random.random() < 0.5:
                    changed.append(some_primitive(random, *item[:3]))
            self.assertEqual(read_back((width, height, tuple(changed)), spec), reported(spec, data))

    def test_arguments_stay_as_they_are(self):
        random = Random(3)
        for _ in range(20):
            spec, data = some_chart(random)
            scene = draw(spec, data)
            before = copy.deepcopy((scene, spec))
            read_back(scene, spec)
            self.assertEqual((scene, spec), before)


if __name__ == "__main__":
    unittest.main()
