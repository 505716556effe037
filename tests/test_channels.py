"""Point 300."""

import copy
import unittest
from itertools import product

from samples import PLAIN, band_scale, chart_of, column, constant, layer_of, linear_scale, view_of

from chartspec.channels import can_read, shown_channels, unread

CHANNELS = ("x", "x2", "y", "y2", "color", "text", "detail")
TABLES = (("t", (("n", "number"), ("s", "text"))),)
N, S = column("n"), column("s")
AXIS = ("", False, PLAIN)


def readable(**view):
    """The channels that can be read in a view."""
    spec = chart_of(view_of(name="first"), view_of(**view), tables=TABLES)
    return tuple(channel for channel in CHANNELS if can_read(spec, 1, channel))


class ShownChannelsTest(unittest.TestCase):
    def test_columns_alone_are_shown(self):
        self.assertEqual(shown_channels(layer_of("point", ("x", N), ("y", constant((1, 1))))), ("x",))
        self.assertEqual(shown_channels(layer_of("point", ("x", constant("a")), ("y", constant((1, 1))))), ())

    def test_the_order(self):
        layer = layer_of("rule", ("color", S), ("y2", N), ("x2", N), ("y", N), ("x", N))
        self.assertEqual(shown_channels(layer), ("x", "x2", "y", "y2", "color"))
        layer = layer_of("line", ("detail", S), ("color", S), ("y", N), ("x", N))
        self.assertEqual(shown_channels(layer), ("x", "y", "color", "detail"))
        layer = layer_of("text", ("color", S), ("text", S), ("y", N), ("x", N))
        self.assertEqual(shown_channels(layer), ("x", "y", "color", "text"))


class CanReadTest(unittest.TestCase):
    def test_position_scales(self):
        for axis, backwards, clamped in product((None, AXIS), (False, True), (False, True)):
            for form, domain, expected in (
                    ("linear", ("fit",), axis is not None), ("linear", ("zero",), axis is not None),
                    ("linear", ("from", (0, 1), (1, 1)), not clamped),
                    ("band", ("fit",), axis is not None), ("band", ("of", ("a", "b")), True)):
                scale = (form, domain, backwards, clamped, 5, axis)
                others = ("color", "text")
                colored = ("plain", ("of", ("a",)), None)
                self.assertEqual(readable(x=scale, y=linear_scale("fit"), color=colored),
                                 (("x", "x2") if expected else ()) + others)
                self.assertEqual(readable(x=linear_scale("fit"), y=scale, color=colored),
                                 (("y", "y2") if expected else ()) + others)

    def test_color_scales(self):
        for domain, legend, expected in ((("fit",), None, False), (("fit",), "", True), (("fit",), "Colors", True),
                                         (("of", ("a",)), None, True), (("of", ("a",)), "", True)):
            found = readable(x=linear_scale("fit"), y=linear_scale("fit"), color=("safe", domain, legend))
            self.assertEqual(found, ("color", "text") if expected else ("text",))

    def test_the_view_with_the_number(self):
        spec = chart_of(view_of(x=linear_scale("fit")), view_of(x=band_scale("of", ("a",)), name="w"), tables=TABLES)
        self.assertEqual([can_read(spec, number, "x") for number in (0, 1)], [False, True])


class UnreadTest(unittest.TestCase):
    def test_view_by_view_and_layer_by_layer(self):
        point = layer_of("point", ("color", S), ("y", N), ("x", N))
        line = layer_of("line", ("x", N), ("y", constant((1, 1))), ("detail", S), ("color", S))
        text = layer_of("text", ("x", N), ("y", N), ("text", S))
        hidden, clamped = linear_scale("fit"), linear_scale("from", (0, 1), (1, 1), clamped=True, axis=AXIS)
        spec = chart_of(
            view_of(point, line, name="a", x=hidden, y=clamped, color=("plain", ("of", ("a",)), None)),
            view_of(name="b", x=hidden),
            view_of(text, line, name="c", x=linear_scale("zero", axis=AXIS), y=hidden), tables=TABLES)
        before = copy.deepcopy(spec)
        self.assertEqual(unread(spec), (
            (0, 0, "x"), (0, 0, "y"), (0, 1, "x"), (0, 1, "detail"), (2, 0, "y"), (2, 1, "color"), (2, 1, "detail")))
        self.assertEqual(spec, before)

    def test_nothing(self):
        self.assertEqual(unread(chart_of(view_of(layer_of("point", ("x", N), ("y", N))), tables=TABLES)), ())
        self.assertEqual(unread(chart_of(view_of(), tables=TABLES)), ())
        constantly = layer_of("point", ("x", constant((1, 1))), ("y", constant((1, 1))), ("color", constant("a")))
        hidden = linear_scale("fit")
        self.assertEqual(unread(chart_of(view_of(constantly, x=hidden, y=hidden), tables=TABLES)), ())


if __name__ == "__main__":
    unittest.main()
