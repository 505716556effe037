"""Points 360 and 362."""

import copy
import unittest
from random import Random

from samples import (PLAIN, band_scale, chart_of, column, constant, layer_of, linear_scale, some_cell, some_chart, view_of,
                     whole)

from chartspec.cases import test_rows as rows_to_test, test_values as values_to_test
from chartspec.checking import check_spec
from chartspec.comparison import compared, same
from chartspec.drawing import draw
from chartspec.errors import ChartError, NotComparable, TooManyCases, TooManyCategories
from chartspec.scenes import without_keys

COLUMNS = (("n", "number"), ("m", "number"), ("s", "text"), ("p", "boolean"))
TABLES = (("t", COLUMNS), ("u", (("k", "text"),)))
N, M, S, P = (column(name) for name in "nmsp")
X, Y = ("x", constant((1, 1))), ("y", constant((1, 1)))
SHORT = linear_scale("from", (0, 1), (4, 1))
BACKWARDS = linear_scale("from", (0, 1), (4, 1), backwards=True)
NOTHING = ((), ())


def where(*conditions):
    return tuple(("filter", condition) for condition in conditions)


def spec_of(*layers, title="", tables=TABLES, **view):
    return chart_of(view_of(*layers, **{"x": SHORT, "y": SHORT, "size": (4, 4), **view}), tables=tables, title=title)


class ExampleTest(unittest.TestCase):
    def test_the_example_of_the_interface(self):
        ten = ("linear", ("from", (0, 1), (10, 1)), False, False, 5, None)
        twenty = ("linear", ("from", (0, 1), (20, 1)), False, False, 5, None)
        one = ("t", (), "point", (("x", ("column", "a")), ("y", ("constant", (5, 1)))), "#000000", None)
        first = ("", (("t", (("a", "number"),)),), (("v", "", (20, 20), ten, ten, ("plain", ("fit",), None), (one,)),),
                 ((0,),))
        second = ("", first[1], (("v", "", (20, 20), twenty, ten, ("plain", ("fit",), None), (one,)),), ((0,),))
        self.assertEqual(compared(first, second), (((1, ((1, 4),)),),))
        self.assertIsNone(compared(first, first))


class SameTest(unittest.TestCase):
    def test_the_scenes_of_these_data(self):
        first = spec_of(layer_of("rule", ("x", N)))
        second = spec_of(layer_of("rule", ("x", N)), x=BACKWARDS)
        for number, expected in ((2, True), (1, False), (9, True), (None, True)):
            data = (((1, whole(number) + (None,) * 3),), ())
            self.assertIs(same(first, second, data), expected)
        self.assertIs(same(first, second, NOTHING), True)

    def test_keys_do_not_count(self):
        sums = ("group", ("n",), (("c", "count", None),))
        first, second = spec_of(layer_of("rule", ("x", N))), spec_of(layer_of("rule", ("x", N), transforms=(sums,)))
        data = (((1, whole(2) + (None,) * 3), (5, whole(3) + (None,) * 3)), ())
        self.assertNotEqual(draw(first, data), draw(second, data))
        self.assertIs(same(first, second, data), True)

    def test_everything_else_counts(self):
        first = spec_of(layer_of("rule", ("x", N)))
        for second in (spec_of(layer_of("rule", ("x", N)), title="t"), spec_of(layer_of("rule", ("x", N)), size=(5, 4)),
                       spec_of(layer_of("rule", ("x", N)), x=linear_scale("from", (0, 1), (4, 1), axis=("", True, PLAIN)))):
            self.assertIs(same(first, second, NOTHING), False)

    def test_too_many_categories_of_the_first_specification_first(self):
        def fitted(size):
            return spec_of(layer_of("rule", ("x", S)), size=size, x=band_scale("fit"))

        data = (tuple((at, (None, None, letter, None)) for at, letter in enumerate("abcdef", 1)), ())
        second = spec_of(layer_of("rule", ("x", S), transforms=(("take", 5),)), size=(4, 4), x=band_scale("fit"))
        for specs, count in (((fitted((5, 5)), second), 6), ((second, fitted((5, 5))), 5), ((fitted((6, 6)), second), 5)):
            with self.assertRaises(TooManyCategories) as caught:
                same(*specs, data)
            self.assertEqual(caught.exception.count, count)

    def test_arguments_stay_as_they_are(self):
        random = Random(360)
        for _ in range(20):
            spec, data = some_chart(random)
            before = copy.deepcopy((spec, data))
            self.assertIs(same(spec, spec, data), True)
            self.assertEqual((spec, data), before)


class NotComparableTest(unittest.TestCase):
    fine = spec_of(layer_of("rule", X))

    def refuse(self, word, *specs):
        for spec in specs:
            check_spec(spec)
        before = copy.deepcopy(specs)
        with self.assertRaises(NotComparable) as caught:
            compared(*specs)
        self.assertEqual(caught.exception.name, word)
        self.assertEqual(specs, before)

    def refuse_layer(self, word, layer, **view):
        spec = spec_of(layer, **view)
        self.refuse(word, spec, spec)
        self.refuse(word, spec, self.fine)
        self.refuse(word, self.fine, spec)

    def test_tables(self):
        for tables in ((("t", COLUMNS),), TABLES[::-1], (("t", COLUMNS), ("u", (("k", "number"),))),
                       (("t", COLUMNS), ("w", (("k", "text"),))), (("t", COLUMNS[::-1]), TABLES[1])):
            self.refuse("tables", self.fine, spec_of(layer_of("rule", X), tables=tables))
        self.refuse("tables", spec_of(layer_of("text", X, Y, ("text", S))),
                    spec_of(layer_of("rule", X), tables=TABLES[:1], title="t"))

    def test_marks(self):
        bands = band_scale("of", ("a",))
        self.refuse_layer("mark", layer_of("line", ("x", N), Y))
        self.refuse_layer("mark", layer_of("text", ("x", N), Y, ("text", S)))
        self.refuse_layer("mark", layer_of("bar", ("x", S), ("y", N), ("y2", M)), x=bands)
        self.refuse_layer("mark", layer_of("bar", ("y", S), ("x", N), ("x2", M)), y=bands)
        self.refuse_layer("mark", layer_of("bar", ("x", N), ("x2", constant((1, 1))), Y))

    def test_labels(self):
        self.refuse_layer("label", layer_of("rule", X, label=("s", (), "above", "below", ())))

    def test_transforms(self):
        for transform in (("derive", "e", N), ("bin", "n", (1, 1), "low", "high"), ("sort", ()), ("take", 40),
                          ("group", ("n",), (("c", "count", None),)), ("stack", "n", (), (), "low", "high")):
            filters = where(("=", N, ("cell", (1, 1))))
            self.refuse_layer("transform", layer_of("rule", X, transforms=(transform,)))
            self.refuse_layer("transform", layer_of("rule", X, transforms=filters + (transform,)))

    def test_expressions(self):
        for expression in (("=", N, M), ("=", ("abs", N), ("cell", (1, 1))), ("not", ("if", P, P, P)),
                           ("and", P, ("missing", ("text", N)))):
            self.refuse_layer("expression", layer_of("rule", X, transforms=where(expression)))
            self.refuse_layer("expression", layer_of("rule", X, transforms=where(P, expression)))

    def test_scales(self):
        fitted = linear_scale("fit")
        self.refuse_layer("scale", layer_of("rule", ("x", N)), x=fitted)
        self.refuse_layer("scale", layer_of("rule", ("y", N)), y=linear_scale("zero"))
        self.refuse_layer("scale", layer_of("rule", X, Y, ("x2", N)), x=fitted)
        self.refuse_layer("scale", layer_of("rule", X), x=fitted)
        self.refuse_layer("scale", layer_of("rule", ("x", S)), x=band_scale("fit"))
        self.refuse_layer("scale", layer_of("rule", X, ("color", S)), color=("plain", ("fit",), None))
        # A fitted scale without channels plays no part.
        self.assertIsNone(compared(spec_of(layer_of("rule", X), y=fitted), self.fine))

    def test_the_first_word_of_a_layer(self):
        label = ("s", (), "above", "below", ())
        transforms = (("take", 3),) + where(("=", N, M))
        text = layer_of("text", ("x", N), Y, ("text", S), transforms=transforms, label=label)
        self.refuse_layer("mark", text, x=linear_scale("fit"))
        self.refuse_layer("label", layer_of("rule", ("x", N), transforms=transforms, label=label), x=linear_scale("fit"))
        self.refuse_layer("transform", layer_of("rule", ("x", N), transforms=where(("=", N, M)) + (("take", 3),)),
                          x=linear_scale("fit"))
        self.refuse_layer("expression", layer_of("rule", ("x", N), transforms=where(("=", N, M))), x=linear_scale("fit"))

    def test_the_first_layer(self):
        taken, equal = layer_of("rule", X, transforms=(("take", 3),)), layer_of("rule", X, transforms=where(("=", N, M)))
        fine = layer_of("rule", X)
        self.refuse("transform", spec_of(fine, taken, equal), spec_of(equal))
        self.refuse("expression", spec_of(fine, equal, taken), spec_of(taken))
        # All layers of the first specification come before those of the second one.
        self.refuse("expression", spec_of(fine, fine, equal), spec_of(taken))
        self.refuse("transform", spec_of(fine, fine), spec_of(fine, fine, taken, equal))
        views = [view_of(fine, name="a", x=SHORT), view_of(equal, name="b", x=SHORT), view_of(taken, name="c", x=SHORT)]
        self.refuse("expression", chart_of(*views, tables=TABLES), chart_of(*views, tables=TABLES))

    def test_data_without_rows_come_before_the_layers(self):
        line = layer_of("line", ("x", N), Y)
        self.assertEqual(compared(spec_of(line), spec_of(line, title="t")), NOTHING)
        count = ("group", (), (("c", "count", None),))
        self.assertEqual(compared(spec_of(layer_of("rule", ("x", column("c")), transforms=(count,))), self.fine), NOTHING)

    def test_too_many_categories_of_data_without_rows(self):
        # Without columns a group has a row, also for a table without rows, and its constants make categories.
        count = ("group", (), (("c", "count", None),))
        letters = "abcdef"

        def crowded(many):
            layers = [layer_of("rule", ("x", constant(one)), Y, ("x2", constant(two)), transforms=(count,))
                      for one, two in zip(letters[:many:2], letters[1:many:2])]
            return spec_of(*layers, x=band_scale("fit"))

        for specs, number in (((crowded(6), self.fine), 6), ((self.fine, crowded(6)), 6)):
            with self.assertRaises(TooManyCategories) as caught:
                compared(*specs)
            self.assertEqual(caught.exception.count, number)
        self.refuse("transform", crowded(4), crowded(4))

    def test_numbers(self):
        many = 10 ** 12
        for low, high, refused in (((0, 1), (1, 10 ** 11), True), ((0, 1), (1, 10 ** 9), False)):
            scale = linear_scale("from", low, high)
            first = spec_of(layer_of("rule", ("x", N)), x=scale)
            if refused:
                self.refuse("numbers", first, first)
            else:
                self.assertIsNone(compared(first, first))
        for number, refused in (((many - 1, 1), True), ((many - 3, 1), False), ((1 - many, 1), True), ((3 - many, 1), False),
                                ((1, many - 1), True), ((1, many // 4), False)):
            spec = spec_of(layer_of("rule", X, transforms=where(("=", N, ("cell", number)))))
            if refused:
                self.refuse("numbers", spec, spec)
            else:
                self.assertIsNone(compared(spec, spec))

    def test_numbers_come_before_too_many_cases(self):
        def crowded(number):
            equal = [("=", column(name), ("cell", cell)) for name, cell in (("n", (number, 1)), ("m", (1, 1)))]
            letters = [("=", S, ("cell", cell)) for cell in "abcd"]
            return spec_of(layer_of("rule", X, transforms=where(P, *equal)), layer_of("rule", X, transforms=where(*letters)))

        self.refuse("numbers", crowded(10 ** 12 - 1), crowded(10 ** 12 - 1))
        with self.assertRaises(TooManyCases) as caught:
            compared(crowded(1), crowded(1))
        self.assertEqual(caught.exception.count, 3 * 4 * 4 * 7)
        other = spec_of(layer_of("rule", X, transforms=where(("=", M, ("cell", (10 ** 12 - 1, 1))))))
        self.refuse("numbers", self.fine, other)


class TooManyCasesTest(unittest.TestCase):
    def crowded(self, *conditions, tables=TABLES):
        layers = [layer_of("rule", X, transforms=where(*conditions[at:at + 4])) for at in range(0, len(conditions), 4)]
        return spec_of(*layers, tables=tables)

    def test_the_count_of_all_tables_together(self):
        numbers = [("=", column(name), ("cell", (number, 1))) for name in "nm" for number in (1, 5, 9)]
        spec = self.crowded(*numbers, P)
        # Each number has the classes of 1, 5, 9, and of all others.
        self.assertEqual([len(values_to_test(spec, spec, 0, place)) for place in range(4)], [6, 6, 1, 3])
        self.assertIsNone(compared(spec, spec))
        spec = self.crowded(*numbers, P, ("=", S, ("cell", "a")))
        self.refuse(6 * 6 * 3 * 4, spec)
        other = layer_of("rule", X, table="u", transforms=where(("=", column("k"), ("cell", "a"))))
        self.refuse(6 * 6 * 3 * 4 + 4, spec_of(*spec[2][0][6], other))

    def test_200_rows_are_not_too_many_and_201_are(self):
        # Five test values of n and of s, and eight of m: what is told apart, the ends of all others, and missing.
        conditions = [("=", column(name), ("cell", (number, 1))) for name, many in (("n", 2), ("m", 5))
                      for number in range(0, 3 * many, 3)]
        spec = self.crowded(*conditions, *[("=", S, ("cell", cell)) for cell in ("a", "c")])
        self.assertEqual(len(list(rows_to_test(spec, spec, 0))), 200)
        self.assertIsNone(compared(spec, spec))
        # A table without columns that matter has one test row.
        self.refuse(201, spec_of(*spec[2][0][6], layer_of("rule", X, table="u")))

    def test_rows_are_not_counted_one_by_one(self):
        tables = (("t", tuple((name, "number") for name in "abcdef")),)
        conditions = [("in", column(name), whole(*range(0, 16, 2))) for name in "abcdef"]
        conditions += [("=", column(name), ("cell", (number, 1))) for name in "ab" for number in (0, 4, 8)]
        spec = self.crowded(*conditions, tables=tables)
        # The cells of a list are in one class, those of which a comparison speaks in their own ones.
        self.assertEqual([len(values_to_test(spec, spec, 0, place)) for place in range(6)], [8, 8, 5, 5, 5, 5])
        self.refuse(8 * 8 * 5 ** 4, spec)

    def test_far_too_many_rows(self):
        tables = (("t", tuple((name, "number") for name in "abcdef")),)
        scale = linear_scale("from", (0, 1), (4, 1))
        layers = [layer_of("rule", ("x", column(name)), ("y", column(other)), ("x2", column(third)), ("y2", constant((1, 1))))
                  for name, other, third in ("abc", "def")]
        first = spec_of(*layers, tables=tables, size=(40, 40))
        second = spec_of(*layers, tables=tables, size=(40, 40), x=BACKWARDS, y=scale)
        with self.assertRaises(TooManyCases) as caught:
            compared(first, second)
        self.assertGreater(caught.exception.count, 10 ** 4)

    def refuse(self, count, spec):
        with self.assertRaises(TooManyCases) as caught:
            compared(spec, spec)
        self.assertEqual(caught.exception.count, count)


class ComparedTest(unittest.TestCase):
    def test_specifications_that_are_written_in_different_ways(self):
        small = ("<", N, ("cell", (3, 1)))
        for one, two in (
                ((small,), (("not", (">=", N, ("cell", (3, 1)))),)), ((small,), (("not", ("not", small)),)),
                ((small, P), (("and", P, (">", ("cell", (3, 1)), N)),)),
                ((("in", S, ("a", "b")),), (("or", ("=", S, ("cell", "a")), ("=", ("cell", "b"), S)),)),
                ((P,), (("=", P, ("cell", True)),)), ((P,), (("<>", ("cell", False), P),)),
                ((("cell", False),), (("nothing", "boolean"),)), ((("cell", True),), ()),
                ((("not", ("missing", N)),), (("or", small, ("<=", ("cell", (3, 1)), N)),)),
                ((("=", S, ("cell", "")),), (("<", S, ("cell", " ")),))):
            first = spec_of(layer_of("point", ("x", N), ("y", M), transforms=where(*one)))
            second = spec_of(layer_of("point", ("y", M), ("x", N), transforms=where(*two)))
            self.assertIsNone(compared(first, second), (one, two))
            self.assertIsNone(compared(second, first), (one, two))

    def test_filters_of_what_is_not_drawn(self):
        inside = ("and", (">=", N, ("cell", (0, 1))), ("<=", N, ("cell", (4, 1))))
        self.assertIsNone(compared(spec_of(layer_of("rule", ("x", N))),
                                   spec_of(layer_of("rule", ("x", N), transforms=where(inside)))))
        self.assertEqual(compared(spec_of(layer_of("rule", ("x", N))), spec_of(layer_of("rule", ("x", N), transforms=where(
            ("<", N, ("cell", (4, 1))))))), (((1, whole(4) + (None,) * 3),), ()))

    def test_scales_that_are_written_in_different_ways(self):
        layer = layer_of("rule", ("x", S))
        first = spec_of(layer, x=band_scale("of", ("a", "b")))
        self.assertIsNone(compared(first, spec_of(layer, x=band_scale("of", ("b", "a"), backwards=True))))
        self.assertEqual(compared(first, spec_of(layer, x=band_scale("of", ("b", "a")))),
                         (((1, (None, None, "a", None)),), ()))

    def test_names_of_views_do_not_count(self):
        self.assertIsNone(compared(spec_of(layer_of("rule", X), name="a"), spec_of(layer_of("rule", X), name="b")))

    def test_a_row_alone_in_its_table(self):
        first = spec_of(layer_of("rule", X), layer_of("rule", ("x", constant((2, 1))), table="u"))
        second = spec_of(layer_of("rule", X), layer_of("rule", ("x", constant((3, 1))), table="u"))
        self.assertEqual(compared(first, second), ((), ((1, (None,)),)))
        third = spec_of(layer_of("rule", X, transforms=where(("missing", P))), *second[2][0][6][1:])
        self.assertEqual(compared(first, third), (((1, (None, None, None, False)),), ()))

    def test_differences_in_one_row_alone(self):
        for text in ("", "m", "a" * 40, "~" * 40):
            layer = layer_of("rule", X)
            other = layer_of("rule", X, transforms=where(("<>", S, ("cell", text))))
            always = layer_of("rule", X, transforms=where(("not", ("missing", S))))
            self.assertEqual(compared(spec_of(always), spec_of(other)), (((1, (None, None, text, None)),), ()))
            self.assertEqual(compared(spec_of(layer), spec_of(always)), (((1, (None,) * 4),), ()))
        number = (123456789, 1000)
        first = spec_of(layer_of("rule", X, transforms=where(("<", N, ("cell", number)))))
        second = spec_of(layer_of("rule", X, transforms=where(("<=", N, ("cell", number)))))
        self.assertEqual(compared(first, second), (((1, (number, None, None, None)),), ()))

    def test_data_without_rows(self):
        first = spec_of(layer_of("rule", X))
        for second in (spec_of(layer_of("rule", X), title="t"), spec_of(layer_of("rule", X), size=(5, 4)), ):
            self.assertEqual(compared(first, second), NOTHING)

    def test_marks_and_paints(self):
        first = spec_of(layer_of("point", ("x", N), Y))
        self.assertEqual(compared(first, spec_of(layer_of("point", ("x", N), Y, paint="#000001"))),
                         (((1, whole(0) + (None,) * 3),), ()))
        self.assertEqual(compared(first, spec_of(layer_of("rule", ("x", N), Y)))[0][0][0], 1)
        self.assertEqual(compared(first, spec_of())[0][0][0], 1)

    def test_bars(self):
        bands = band_scale("of", ("a", "b"))
        bar = layer_of("bar", ("x", S), ("y", N))
        first = spec_of(bar, x=bands)
        self.assertIsNone(compared(first, first))
        # The bars of 0 have no height, so that on a reversed scale only 0 lies elsewhere.
        second = spec_of(bar, x=bands, y=linear_scale("from", (-4, 1), (4, 1)))
        data = compared(first, second)
        self.assertFalse(same(first, second, data))
        self.assertEqual(sum(len(rows) for rows in data), 1)

    def test_the_first_test_row_that_is_drawn_differently(self):
        random = Random(362)
        kinds = {"same": 0, "different": 0}
        for _ in range(250):
            first, second = some_pair(random)
            before = copy.deepcopy((first, second))
            try:
                found = compared(first, second)
            except (NotComparable, TooManyCases):
                continue
            self.assertEqual((first, second), before)
            self.assertEqual(found, expected_difference(first, second))
            kinds["same" if found is None else "different"] += 1
            if found is None:
                for _ in range(40):
                    data = tuple(tuple((at, tuple(some_cell(random, kind) for _, kind in columns))
                                       for at in range(1, random.randrange(4) + 1)) for _, columns in TABLES)
                    self.assertTrue(same(first, second, data), (first, second, data))
        self.assertGreater(min(kinds.values()), 60)


def expected_difference(first, second):
    """What comparing returns, by the test rows."""
    if without_keys(draw(first, NOTHING)) != without_keys(draw(second, NOTHING)):
        return NOTHING
    for table in range(2):
        for cells in rows_to_test(first, second, table):
            data = tuple(((1, cells),) if at == table else () for at in range(2))
            if without_keys(draw(first, data)) != without_keys(draw(second, data)):
                return data
    return None


LISTED = {"number": whole(0, 1, 2, 5) + ((1, 2),), "text": ("", "a", "b", "north"), "boolean": (False, True)}


def some_test(random, columns):
    name, kind = random.choice(columns)
    cell = ("cell", random.choice(LISTED[kind]))
    parts = random.choice(((column(name), cell), (cell, column(name))))
    found = [("missing", column(name)), ("in", column(name), random.choice((LISTED[kind][:2], LISTED[kind][1:])))]
    found += [(random.choice(("=", "<>", "<", "<=", ">", ">=")),) + parts] * 3
    return random.choice(found + [column(name)] * (kind == "boolean"))


def some_formula(random, columns, depth=2):
    word = random.choice(("test", "test", "not", "and", "or", "constant"))
    if depth == 0 or word == "test":
        return some_test(random, columns)
    if word == "constant":
        return random.choice((("cell", True), ("cell", False), ("nothing", "boolean")))
    return (word,) + tuple(some_formula(random, columns, depth - 1) for _ in range(1 if word == "not" else 2))


def some_listed_scale(random, kind):
    backwards, clamped = random.random() < 0.3, random.random() < 0.3
    if kind == "number" and random.random() < 0.8:
        low, high = random.choice((whole(0, 2), whole(0, 5), whole(1, 5)))
        return ("linear", ("from", low, high), backwards, clamped, 5, None)
    return ("band", ("of", tuple(random.sample(LISTED[kind], 2))), backwards, False, 5, None)


def some_comparable_layer(random, kinds):
    name, columns = random.choice(TABLES[:1] * 3 + TABLES)
    mark = random.choice(("point", "bar", "rule", "rule"))
    channels = []
    for channel, kind in zip(("x", "y", "x2", "y2", "color"), (kinds + kinds[:2])[:2] + kinds[:2] + kinds[2:]):
        if channel in ("x", "y") or random.random() < 0.3 and (mark == "rule" or channel == "color"):
            fitting = [column(each) for each, own in columns if own == kind]
            channels.append((channel, random.choice(fitting * 2 + [constant(random.choice(LISTED[kind]))])))
    if mark == "rule" and len(channels) == 2 and channels[1][0] == "y":
        channels = random.choice((channels, channels[:1], channels[1:]))
    filters = where(*[some_formula(random, columns) for _ in range(random.choice((0, 0, 1, 1, 2)))])
    return layer_of(mark, *channels, table=name, transforms=filters, paint=random.choice(("#000000", "#3a6ea8")))


def some_pair(random):
    """Two specifications that can be compared, and that have much in common, by a seeded generator."""
    while True:
        kinds = [random.choice(("number", "number", "text", "boolean")) for _ in range(3)]
        layers = [some_comparable_layer(random, kinds) for _ in range(random.choice((1, 1, 2)))]
        view = {"size": (random.choice((4, 5)), 4), "x": some_listed_scale(random, kinds[0]),
                "y": some_listed_scale(random, kinds[1]), "color": ("plain", ("of", LISTED[kinds[2]][:2]), None)}
        first = spec_of(*layers, **view)
        change = random.randrange(5)
        if change == 0:
            view["x"] = some_listed_scale(random, kinds[0])
        elif change == 1:
            layers[0] = some_comparable_layer(random, kinds)
        elif change == 2:
            layers[0] = (layers[0][0], tuple(("filter", ("not", ("not", condition))) for _, condition in layers[0][1]),
                         layers[0][2], layers[0][3][::-1]) + layers[0][4:]
        elif change == 3:
            more = some_formula(random, dict(TABLES)[layers[0][0]], 0)
            layers[0] = (layers[0][0], layers[0][1] + where(more)) + layers[0][2:]
        second = spec_of(*layers, **view)
        try:
            check_spec(first)
            check_spec(second)
        except ChartError:
            continue
        return first, second


if __name__ == "__main__":
    unittest.main()
