"""Points 222 to 225."""

import copy
import unittest

from chartspec.checking import check_spec, last_columns, scale_kind
from chartspec.errors import (ChannelNeeded, ChannelNotAllowed, ChartError, DuplicateName, ScalesDoNotFit,
                              TooManyCategories, UnknownName, WrongKind)

LINEAR = ("linear", ("fit",), False, False, 5, None)
BAND = ("band", ("fit",), False, False, 5, None)
COLOR = ("plain", ("fit",), None)
COLUMNS = (("n", "number"), ("m", "number"), ("s", "text"), ("p", "boolean"))
TABLES = (("t", COLUMNS), ("other", (("z", "text"),)))
N, M, S, P, UNKNOWN = (("column", name) for name in "nmspu")
ONE, TEXT = ("constant", (1, 1)), ("constant", "a")

# Layers of all marks without an error in a view with two linear scales.
FITTING = {
    "point": (("x", N), ("y", M)),
    "bar": (("x", N), ("y", M), ("x2", M)),
    "line": (("x", N), ("y", M)),
    "rule": (("x", N),),
    "text": (("x", N), ("y", M), ("text", S)),
}


def band_of(*cells):
    return ("band", ("of", cells), False, False, 5, None)


def layer(mark, *channels, table="t", transforms=(), label=None):
    return (table, transforms, mark, channels, "#000000", label)


def view(*layers, name="v", size=(40, 30), x=LINEAR, y=LINEAR, color=COLOR):
    return (name, "", size, x, y, color, layers)


def spec_of(*views, tables=TABLES):
    return ("", tables, views, (tuple(range(len(views))),))


def label(column, *keys):
    return (column, keys, "above", "below", ())


class CheckTest(unittest.TestCase):
    def accept(self, spec):
        before = copy.deepcopy(spec)
        self.assertIsNone(check_spec(spec))
        self.assertEqual(spec, before)

    def refuse(self, spec, error, value):
        before = copy.deepcopy(spec)
        with self.assertRaises(ChartError) as caught:
            check_spec(spec)
        self.assertEqual(spec, before)
        self.assertIs(type(caught.exception), error)
        found = caught.exception.count if error is TooManyCategories else caught.exception.name
        self.assertEqual(found, value)

    def refuse_layer(self, found, error, value, **scales):
        """The layer is refused, alone, before a layer with another error, and behind a view without an error."""
        self.refuse(spec_of(view(found, **scales)), error, value)
        self.refuse(spec_of(view(found, layer("rule"), **scales)), error, value)
        self.refuse(spec_of(view(name="a"), view(found, **scales)), error, value)


class ExampleTest(CheckTest):
    plain = ("", "", False)
    line = ("linear", ("fit",), False, False, 5, ("", False, plain))
    doubled = ("derive", "twice", ("*", ("cell", (2, 1)), ("column", "total")))
    point = ("sales", (doubled,), "point", (("x", ("column", "total")), ("y", ("column", "twice"))), "#000000", None)
    views = (("v", "", (40, 30), line, line, ("plain", ("fit",), None), (point,)),)

    def test_the_example_of_the_interface(self):
        good = ("", (("sales", (("total", "number"),)),), self.views, ((0,),))
        self.accept(good)
        self.assertEqual(last_columns(good, 0, 0), (("total", "number"), ("twice", "number")))
        self.refuse(("", (("sales", (("amount", "number"),)),), self.views, ((0,),)), UnknownName, "total")

    def test_the_bar_chart(self):
        region = ("band", ("fit",), False, False, 5, ("", False, self.plain))
        total = ("linear", ("zero",), False, False, 3, ("total", True, self.plain))
        bar = ("sales", (), "bar", (("x", ("column", "region")), ("y", ("column", "total"))), "#3a6ea8", None)
        chart = ("main", "", (100, 60), region, total, ("plain", ("fit",), None), (bar,))
        spec = ("Sales", (("sales", (("region", "text"), ("total", "number"))),), (chart,), ((0,),))
        self.accept(spec)
        self.assertEqual([scale_kind(spec, 0, channel) for channel in ("x", "y", "color")], ["text", "number", None])


class AcceptedTest(CheckTest):
    def test_all_marks(self):
        for mark, channels in FITTING.items():
            self.accept(spec_of(view(layer(mark, *channels))))
        self.accept(spec_of(view(*[layer(mark, *channels) for mark, channels in list(FITTING.items())[:4]])))

    def test_no_layers(self):
        self.accept(spec_of(view()))
        self.accept(spec_of(view(name="a"), view(name="b"), view(name="c")))

    def test_all_channels_of_each_mark(self):
        for mark, channels in (("point", (("color", S),)), ("bar", (("y2", N), ("color", S))),
                               ("line", (("color", S), ("detail", P))),
                               ("rule", (("x2", M), ("y", M), ("y2", N), ("color", S))), ("text", (("color", S),))):
            self.accept(spec_of(view(layer(mark, *FITTING[mark], *channels))))
            self.accept(spec_of(view(layer(mark, *reversed(FITTING[mark] + channels)))))

    def test_rules(self):
        for channels in ((("x", N),), (("y", N),), (("x", N), ("y", M)), (("x", N), ("y", M), ("x2", M)),
                         (("x", N), ("y", M), ("y2", M)), (("y2", N), ("x", N), ("y", M), ("x2", M))):
            self.accept(spec_of(view(layer("rule", *channels))))

    def test_labels_and_constants(self):
        self.accept(spec_of(view(layer("point", ("x", ONE), ("y", N), label=label("s", ("n", True), ("p", False))))))
        self.accept(spec_of(view(layer("text", ("x", ONE), ("y", ONE), ("text", TEXT), ("color", TEXT),
                                       label=label("n")))))

    def test_the_same_column_names_in_several_tables(self):
        self.accept(spec_of(view(), tables=(("t", COLUMNS), ("n", COLUMNS))))

    def test_as_many_declared_categories_as_pixels(self):
        self.accept(spec_of(view(size=(4, 5), x=band_of(*"abcd"), y=band_of(*"abcde"))))


class TableErrorTest(CheckTest):
    def test_a_table_with_the_name_of_an_earlier_one(self):
        self.refuse(spec_of(view(), tables=(("t", COLUMNS), ("t", (("z", "text"),)))), DuplicateName, "t")
        self.refuse(spec_of(view(), tables=(("a", COLUMNS), ("b", COLUMNS), ("a", COLUMNS))), DuplicateName, "a")

    def test_a_column_with_the_name_of_an_earlier_one(self):
        self.refuse(spec_of(view(), tables=(("t", (("n", "number"), ("s", "text"), ("n", "text"))),)),
                    DuplicateName, "n")
        self.refuse(spec_of(view(), tables=(("a", COLUMNS), ("b", (("z", "text"), ("z", "number"))))),
                    DuplicateName, "z")

    def test_table_by_table(self):
        wrong = (("c", "number"), ("c", "text"))
        self.refuse(spec_of(view(), tables=(("a", wrong), ("a", COLUMNS))), DuplicateName, "c")
        self.refuse(spec_of(view(), tables=(("a", COLUMNS), ("a", wrong))), DuplicateName, "a")

    def test_tables_come_before_views(self):
        self.refuse(spec_of(view(name="x"), view(name="x"), tables=(("t", COLUMNS), ("t", COLUMNS))),
                    DuplicateName, "t")
        self.refuse(spec_of(view(size=(4, 4), x=band_of(*"abcde")), tables=(("t", COLUMNS), ("t", COLUMNS))),
                    DuplicateName, "t")


class ViewErrorTest(CheckTest):
    def test_a_view_with_the_name_of_an_earlier_one(self):
        self.refuse(spec_of(view(name="a"), view(name="b"), view(name="a")), DuplicateName, "a")

    def test_too_many_declared_categories(self):
        self.refuse(spec_of(view(size=(4, 40), x=band_of(*"abcde"))), TooManyCategories, 5)
        self.refuse(spec_of(view(size=(40, 7), y=band_of(*"abcdefgh"))), TooManyCategories, 8)

    def test_the_x_scale_comes_first(self):
        self.refuse(spec_of(view(size=(4, 4), x=band_of(*"abcde"), y=band_of(*"abcdef"))), TooManyCategories, 5)

    def test_the_name_comes_before_the_categories(self):
        wrong = view(size=(4, 4), x=band_of(*"abcde"))
        self.refuse(spec_of(view(), wrong), DuplicateName, "v")
        self.refuse(spec_of(wrong, view()), TooManyCategories, 5)

    def test_the_categories_come_before_the_layers(self):
        self.refuse(spec_of(view(layer("point", table="u"), size=(4, 4), x=band_of(*"abcde"))), TooManyCategories, 5)

    def test_the_layers_of_a_view_come_before_the_next_view(self):
        self.refuse(spec_of(view(layer("point", table="u")), view()), UnknownName, "u")
        self.refuse(spec_of(view(layer("point")), view(name="w", size=(4, 4), x=band_of(*"abcde"))),
                    ChannelNeeded, "x")
        self.refuse(spec_of(view(name="a"), view(layer("point", table="u"))), UnknownName, "u")

    def test_more_categories_of_colors_than_pixels(self):
        self.accept(spec_of(view(size=(4, 4), color=("plain", ("of", tuple("abcdefgh")), None))))


class LayerErrorTest(CheckTest):
    def test_an_unknown_table(self):
        self.refuse_layer(layer("point", ("x", N), ("y", M), table="u"), UnknownName, "u")
        self.refuse_layer(layer("point", table="u", transforms=(("filter", UNKNOWN),)), UnknownName, "u")

    def test_errors_of_transforms(self):
        for transform, error, name in ((("filter", UNKNOWN), UnknownName, "u"), (("filter", N), WrongKind, "filter"),
                                       (("derive", "s", N), DuplicateName, "s"),
                                       (("bin", "s", (1, 1), "l", "h"), WrongKind, "bin"),
                                       (("group", ("n",), (("n", "count", None),)), DuplicateName, "n")):
            self.refuse_layer(layer("point", ("x", N), ("y", M), transforms=(transform,)), error, name)
            self.refuse_layer(layer("point", ("y", UNKNOWN), transforms=(transform,)), error, name)

    def test_transforms_are_checked_for_the_columns_before_them(self):
        group = ("group", ("s",), (("many", "count", None),))
        self.refuse_layer(layer("point", ("x", N), ("y", M), transforms=(group, ("filter", P))), UnknownName, "p")
        self.refuse_layer(layer("point", ("x", N), transforms=(("derive", "d", N), ("derive", "d", M))),
                          DuplicateName, "d")
        self.accept(spec_of(view(layer("point", ("x", ("column", "many")), ("y", ("column", "n")), transforms=(
            group, ("derive", "n", ("column", "many")), ("sort", (("n", True),)), ("take", 3))))))

    def test_a_channel_that_the_mark_does_not_have(self):
        for mark, channel in (("point", "x2"), ("point", "detail"), ("point", "text"), ("bar", "text"),
                              ("bar", "detail"), ("line", "y2"), ("line", "text"), ("rule", "detail"),
                              ("rule", "text"), ("text", "detail"), ("text", "x2")):
            self.refuse_layer(layer(mark, (channel, N), *FITTING[mark]), ChannelNotAllowed, channel)
            self.refuse_layer(layer(mark, *FITTING[mark], (channel, UNKNOWN)), ChannelNotAllowed, channel)

    def test_a_channel_that_is_given_before(self):
        for mark, channels in FITTING.items():
            self.refuse_layer(layer(mark, *channels, ("x", M)), DuplicateName, "x")
            self.refuse_layer(layer(mark, *channels, ("x", UNKNOWN)), DuplicateName, "x")
        self.refuse_layer(layer("point", ("color", S), ("x", N), ("color", S)), DuplicateName, "color")

    def test_a_channel_that_is_neither_allowed_nor_new(self):
        self.refuse_layer(layer("point", ("x", N), ("x2", N), ("x2", N)), ChannelNotAllowed, "x2")

    def test_a_column_that_the_last_table_does_not_have(self):
        self.refuse_layer(layer("point", ("x", N), ("y", UNKNOWN)), UnknownName, "u")
        self.refuse_layer(layer("text", ("x", N), ("y", N), ("text", ("column", "z"))), UnknownName, "z")
        self.refuse_layer(layer("line", ("x", N), ("y", N), ("detail", UNKNOWN)), UnknownName, "u")
        group = ("group", ("s",), (("many", "count", None),))
        self.refuse_layer(layer("point", ("x", ("column", "many")), ("y", N), transforms=(group,)), UnknownName, "n")

    def test_the_kind_of_a_linear_scale(self):
        for source in (S, P, TEXT, ("constant", True)):
            for channel, other in (("x", "y"), ("y", "x")):
                self.refuse_layer(layer("point", (other, N), (channel, source)), WrongKind, channel)
            self.refuse_layer(layer("rule", ("x", N), ("y", M), ("x2", source)), WrongKind, "x2")
            self.refuse_layer(layer("rule", ("x", N), ("y", M), ("y2", source)), WrongKind, "y2")

    def test_the_kind_of_a_declared_domain(self):
        scale = band_of("a", "b")
        self.accept(spec_of(view(layer("point", ("x", S), ("y", N)), x=scale)))
        self.refuse_layer(layer("point", ("y", N), ("x", N)), WrongKind, "x", x=scale)
        self.refuse_layer(layer("point", ("y", N), ("x", ONE)), WrongKind, "x", x=scale)
        self.refuse_layer(layer("point", ("x", N), ("y", P)), WrongKind, "y", y=band_of((1, 1)))
        self.refuse_layer(layer("point", ("color", P), ("x", N), ("y", N)), WrongKind, "color",
                          color=("safe", ("of", ("a",)), ""))
        self.accept(spec_of(view(layer("point", ("x", N), ("y", N), ("color", P)),
                                 color=("safe", ("of", (False,)), ""))))

    def test_the_kind_of_a_fitted_domain_is_that_of_the_first_channel(self):
        first = layer("point", ("x", S), ("y", N), ("color", P))
        self.accept(spec_of(view(first, layer("point", ("x", TEXT), ("y", N), ("color", ("constant", True))),
                                 x=BAND)))
        self.refuse(spec_of(view(first, layer("point", ("x", N), ("y", N)), x=BAND)), WrongKind, "x")
        self.refuse(spec_of(view(first, layer("point", ("x", S), ("y", N), ("color", S)), x=BAND)), WrongKind, "color")
        self.refuse(spec_of(view(first, layer("rule", ("y", N)), layer("rule", ("x", ONE)), x=BAND)), WrongKind, "x")
        self.accept(spec_of(view(layer("rule", ("y", N)), first, layer("rule", ("x", S)), x=BAND)))

    def test_the_kind_of_a_fitted_domain_within_a_layer(self):
        self.accept(spec_of(view(layer("rule", ("x2", S), ("x", TEXT), ("y", N)), x=BAND)))
        self.refuse(spec_of(view(layer("rule", ("x2", S), ("x", N), ("y", N)), x=BAND)), WrongKind, "x")
        self.refuse(spec_of(view(layer("rule", ("x", N), ("y", N), ("x2", S)), x=BAND)), WrongKind, "x2")
        self.refuse(spec_of(view(layer("rule", ("y2", P), ("x", N), ("y", N)), y=BAND)), WrongKind, "y")

    def test_each_view_has_kinds_of_its_own(self):
        self.accept(spec_of(view(layer("rule", ("x", S)), x=BAND), view(layer("rule", ("x", P)), name="w", x=BAND)))

    def test_what_no_scale_shows_can_be_of_any_kind(self):
        for source in (N, S, P):
            self.accept(spec_of(view(layer("text", ("x", N), ("y", N), ("text", source)))))
            self.accept(spec_of(view(layer("line", ("x", N), ("y", N), ("detail", source)))))

    def test_channel_by_channel(self):
        self.refuse_layer(layer("point", ("x", S), ("x2", N)), WrongKind, "x")
        self.refuse_layer(layer("point", ("x", UNKNOWN), ("x2", N)), UnknownName, "u")
        self.refuse_layer(layer("point", ("x", N), ("x", N), ("x2", N)), DuplicateName, "x")
        self.refuse_layer(layer("point", ("x", N), ("detail", S), ("x", S)), ChannelNotAllowed, "detail")

    def test_channels_come_before_those_that_are_needed(self):
        self.refuse_layer(layer("point", ("y", S)), WrongKind, "y")
        self.refuse_layer(layer("point", ("color", UNKNOWN)), UnknownName, "u")

    def test_channels_that_are_needed(self):
        for mark in ("point", "bar", "line", "text"):
            self.refuse_layer(layer(mark), ChannelNeeded, "x")
            self.refuse_layer(layer(mark, ("y", N)), ChannelNeeded, "x")
            self.refuse_layer(layer(mark, ("x", N)), ChannelNeeded, "y")
        self.refuse_layer(layer("text", ("x", N), ("y", N)), ChannelNeeded, "text")
        self.refuse_layer(layer("text", ("text", N), ("y", N)), ChannelNeeded, "x")
        self.refuse_layer(layer("bar", ("x2", N), ("y2", N)), ChannelNeeded, "x")

    def test_channels_that_a_rule_needs(self):
        self.refuse_layer(layer("rule"), ChannelNeeded, "x")
        self.refuse_layer(layer("rule", ("color", S)), ChannelNeeded, "x")
        for channel in ("x2", "y2"):
            self.refuse_layer(layer("rule", (channel, N)), ChannelNeeded, "x")
            self.refuse_layer(layer("rule", (channel, N), ("x", N)), ChannelNeeded, "y")
            self.refuse_layer(layer("rule", (channel, N), ("y", N)), ChannelNeeded, "x")

    def test_labels(self):
        def labelled(found):
            return layer("point", ("x", N), ("y", M), label=found)

        self.refuse_layer(labelled(label("u")), UnknownName, "u")
        self.refuse_layer(labelled(label("n", ("s", True), ("u", False))), UnknownName, "u")
        self.refuse_layer(labelled(label("u", ("w", True))), UnknownName, "u")
        self.refuse_layer(labelled(label("n", ("w", True), ("u", True))), UnknownName, "w")
        self.refuse_layer(layer("point", ("x", N), label=label("u")), ChannelNeeded, "y")
        group = ("group", ("n", "m"), (("many", "count", None),))
        self.refuse_layer(layer("point", ("x", N), ("y", M), transforms=(group,), label=label("s")), UnknownName, "s")

    def test_layer_by_layer(self):
        wrong_label = layer("point", ("x", N), ("y", M), label=label("u"))
        wrong_table = layer("point", table="w")
        self.refuse(spec_of(view(wrong_label, wrong_table)), UnknownName, "u")
        self.refuse(spec_of(view(wrong_table, wrong_label)), UnknownName, "w")


class BarTest(CheckTest):
    def fits(self, x, y, *channels):
        self.accept(spec_of(view(layer("bar", *channels), x=x, y=y)))

    def fails(self, x, y, *channels):
        self.refuse(spec_of(view(name="a"), view(layer("bar", *channels), name="b", x=x, y=y)), ScalesDoNotFit, "b")

    def test_two_band_scales(self):
        self.fails(BAND, BAND, ("x", S), ("y", S))
        self.fails(BAND, BAND, ("x", S), ("y", S), ("x2", S), ("y2", S))

    def test_a_band_scale_for_x(self):
        self.fits(BAND, LINEAR, ("x", S), ("y", N))
        self.fits(BAND, LINEAR, ("x", S), ("y", N), ("y2", M))
        self.fails(BAND, LINEAR, ("x", S), ("y", N), ("x2", S))
        self.fails(BAND, LINEAR, ("x", S), ("y", N), ("x2", S), ("y2", M))

    def test_a_band_scale_for_y(self):
        self.fits(LINEAR, BAND, ("x", N), ("y", S))
        self.fits(LINEAR, BAND, ("x", N), ("y", S), ("x2", M))
        self.fails(LINEAR, BAND, ("x", N), ("y", S), ("y2", S))
        self.fails(LINEAR, BAND, ("x", N), ("y", S), ("x2", M), ("y2", S))

    def test_two_linear_scales(self):
        self.fits(LINEAR, LINEAR, ("x", N), ("y", N), ("x2", M))
        self.fits(LINEAR, LINEAR, ("x", N), ("y", N), ("x2", M), ("y2", M))
        self.fails(LINEAR, LINEAR, ("x", N), ("y", N))
        self.fails(LINEAR, LINEAR, ("x", N), ("y", N), ("y2", M))

    def test_only_bars_need_fitting_scales(self):
        self.accept(spec_of(view(layer("point", ("x", S), ("y", S)), x=BAND, y=BAND)))
        self.accept(spec_of(view(layer("rule", ("x", S), ("y", S), ("x2", S)), x=BAND, y=BAND)))

    def test_its_place_among_the_errors(self):
        self.refuse(spec_of(view(layer("bar", ("x", N), label=label("u")))), ChannelNeeded, "y")
        self.refuse(spec_of(view(layer("bar", ("x", N), ("y", N), label=label("u")))), ScalesDoNotFit, "v")
        self.refuse(spec_of(view(layer("bar", ("x", N), ("y", S)))), WrongKind, "y")


class LastColumnsTest(unittest.TestCase):
    def test_without_transforms(self):
        spec = spec_of(view(layer("rule", ("x", N)), layer("rule", ("x", ONE), table="other")), view(name="w"))
        self.assertEqual(last_columns(spec, 0, 0), COLUMNS)
        self.assertEqual(last_columns(spec, 0, 1), (("z", "text"),))

    def test_one_transform_after_the_other(self):
        transforms = (("filter", P), ("bin", "n", (1, 1), "low", "high"),
                      ("group", ("low", "s"), (("many", "count", None), ("first", "least", "p"))),
                      ("derive", "d", ("text", ("column", "first"))))
        spec = spec_of(view(name="w"), view(layer("rule", ("x", ONE)), layer("rule", ("x", ONE),
                                                                             transforms=transforms)))
        self.assertEqual(last_columns(spec, 1, 1), (("low", "number"), ("s", "text"), ("many", "number"),
                                                    ("first", "boolean"), ("d", "text")))
        self.assertEqual(last_columns(spec, 1, 0), COLUMNS)


class ScaleKindTest(unittest.TestCase):
    def kinds(self, *layers, number=0, **scales):
        spec = spec_of(*[view(name=f"v{at}") for at in range(number)], view(*layers, **scales))
        check_spec(spec)
        return [scale_kind(spec, number, channel) for channel in ("x", "y", "color")]

    def test_linear_scales(self):
        self.assertEqual(self.kinds(), ["number", "number", None])
        self.assertEqual(self.kinds(x=("linear", ("from", (0, 1), (1, 1)), True, True, 1, None)),
                         ["number", "number", None])

    def test_declared_domains(self):
        self.assertEqual(self.kinds(x=band_of("a"), y=band_of(True, False), color=("dark", ("of", ((1, 2),)), "")),
                         ["text", "boolean", "number"])

    def test_nothing_determines_it(self):
        self.assertEqual(self.kinds(x=BAND, y=BAND), [None, None, None])
        self.assertEqual(self.kinds(layer("rule", ("y", S)), x=BAND, y=BAND), [None, "text", None])

    def test_the_first_channel_that_it_shows(self):
        self.assertEqual(self.kinds(layer("rule", ("color", P), ("y", N)), layer("rule", ("x", S)), x=BAND, y=BAND,
                                    number=2), ["text", "number", "boolean"])
        self.assertEqual(self.kinds(layer("rule", ("x2", P), ("y2", S), ("y", TEXT), ("x", ("constant", True))),
                                    x=BAND, y=BAND), ["boolean", "text", None])

    def test_constants(self):
        self.assertEqual(self.kinds(layer("rule", ("x", TEXT), ("color", ONE)), x=BAND), ["text", "number", "number"])

    def test_columns_of_the_last_table(self):
        derive = ("derive", "d", ("missing", N))
        self.assertEqual(self.kinds(layer("rule", ("x", ("column", "d")), transforms=(derive,)), x=BAND),
                         ["boolean", "number", None])

    def test_channels_that_count_as_not_given(self):
        for channels in ((("x", UNKNOWN), ("x2", S)), (("detail", N), ("x", S)), (("y", N), ("y", S), ("x", S))):
            spec = spec_of(view(layer("rule", *channels), x=BAND, y=BAND))
            self.assertEqual(scale_kind(spec, 0, "x"), "text")
        spec = spec_of(view(layer("rule", ("x", UNKNOWN), ("x", S), ("x2", P)), layer("point", ("x2", S)),
                            layer("rule", ("y", N), ("y", P)), x=BAND, y=BAND))
        self.assertEqual([scale_kind(spec, 0, channel) for channel in ("x", "y")], ["boolean", "number"])
        spec = spec_of(view(layer("point", ("x2", S), ("color", UNKNOWN)), x=BAND))
        self.assertEqual([scale_kind(spec, 0, channel) for channel in ("x", "color")], [None, None])

    def test_text_and_detail_determine_nothing(self):
        self.assertEqual(self.kinds(layer("text", ("text", S), ("x", N), ("y", N)),
                                    layer("line", ("detail", S), ("x", N), ("y", N)), x=BAND),
                         ["number", "number", None])


if __name__ == "__main__":
    unittest.main()
