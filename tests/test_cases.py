"""Points 363, 364, 367 and 368, with the example of point 369."""

import copy
import unittest
from itertools import islice, product
from random import Random

from samples import band_scale, chart_of, column, constant, layer_of, linear_scale, some_cell, view_of, whole

from chartspec.cases import features, test_rows as rows_to_test, test_values as values_to_test
from chartspec.comparison import same
from chartspec.expressions import evaluate
from chartspec.guides import frame_of
from chartspec.limits import candidates, limits_of
from chartspec.marks import row_mark

COLUMNS = (("n", "number"), ("m", "number"), ("s", "text"), ("p", "boolean"))
TABLES = (("t", COLUMNS), ("u", (("k", "text"),)))
N, M, S, P = (column(name) for name in "nmsp")
X, Y = ("x", constant((1, 1))), ("y", constant((1, 1)))
TEN = ("linear", whole(0, 10), 20, False, False)
CLAMPED = ("linear", whole(0, 10), 20, False, True)
ABC = ("band", ("a", "b", "c"), 20, False, False)
SHORT = linear_scale("from", (0, 1), (4, 1))

# The test values of a number that SHORT alone tells apart: outside its domain and inside.
APART = (None,) + whole(-2, 0, 4, 6)


def where(*conditions):
    return tuple(("filter", condition) for condition in conditions)


def spec_of(*layers, **view):
    return chart_of(view_of(*layers, **{"x": SHORT, "y": SHORT, "size": (4, 4), **view}), tables=TABLES)


def values(first, second, place=0, table=0):
    before = copy.deepcopy((first, second))
    found = values_to_test(first, second, table, place)
    assert (first, second) == before
    return found


class FeatureTest(unittest.TestCase):
    def features(self, mark, cells, *channels, x=TEN, y=TEN):
        frame = (0, x, y, "plain", ("a", "b"))
        layer = layer_of(mark, *channels, paint="#123456")
        cells = tuple((cell, 1) if type(cell) is int else cell for cell in cells)
        found = features(frame, 3, layer, COLUMNS, cells)
        drawn = row_mark(frame, 3, layer, COLUMNS, ((), cells, ()))
        self.assertEqual(drawn is None, None in found)
        return found

    def test_points(self):
        given = (("x", N), ("y", M), ("color", S))
        self.assertEqual(self.features("point", (1, 2, "b", None), *given), ("#e5832f", 2, 4))
        self.assertEqual(self.features("point", (None, 11, "c", None), *given), (None, None, None))
        self.assertEqual(self.features("point", (11, 11, None, None), *given, x=CLAMPED), (None, 20, None))
        self.assertEqual(self.features("point", (1, 2, "b", None), ("x", S), ("y", N), x=ABC), ("#123456", 9, 2))

    def test_rules(self):
        self.assertEqual(self.features("rule", (1, 2, None, None), ("x", N)), ("#123456", 2, 0, 2, 20))
        self.assertEqual(self.features("rule", (1, 2, None, None), ("y", N)), ("#123456", 0, 2, 20, 2))
        self.assertEqual(self.features("rule", (11, 2, None, None), ("y", N)), ("#123456", 0, None, 20, None))
        self.assertEqual(self.features("rule", (1, 2, None, None), ("x", N), ("y", M)), ("#123456", 2, 4, 2, 4))
        self.assertEqual(self.features("rule", (1, 2, None, None), ("x", N), ("y", M), ("x2", M)), ("#123456", 2, 4, 4, 4))
        self.assertEqual(self.features("rule", (1, None, None, None), ("x", N), ("y", N), ("y2", M)),
                         ("#123456", 2, 2, 2, None))
        wide = ("linear", whole(0, 10), 30, False, False)
        self.assertEqual(self.features("rule", (1, 2, None, None), ("y", N), x=wide), ("#123456", 0, 2, 30, 2))

    def test_bars(self):
        self.assertEqual(self.features("bar", (3, None, "b", None), ("x", S), ("y", N), x=ABC), ("#123456", (6, 13), (0, 6)))
        self.assertEqual(self.features("bar", (3, None, "b", None), ("x", N), ("y", S), y=ABC), ("#123456", (0, 6), (6, 13)))
        self.assertEqual(self.features("bar", (None, None, "b", None), ("x", N), ("y", S), y=ABC),
                         ("#123456", None, (6, 13)))
        self.assertEqual(self.features("bar", (3, None, "d", None), ("x", N), ("y", S), y=ABC), ("#123456", (0, 6), None))
        five = ("linear", whole(5, 10), 20, False, False)
        self.assertEqual(self.features("bar", (6, None, "b", None), ("x", S), ("y", N), ("color", S), x=ABC, y=five),
                         ("#e5832f", (6, 13), (0, 4)))


class ExampleTest(unittest.TestCase):
    def test_point_369(self):
        layer = layer_of("point", ("x", column("a")), ("y", constant((5, 1))))
        tables = (("t", (("a", "number"),)),)
        ten, twenty = linear_scale("from", (0, 1), (10, 1)), linear_scale("from", (0, 1), (20, 1))
        first = chart_of(view_of(layer, x=ten, y=ten), tables=tables)
        second = chart_of(view_of(layer, x=twenty, y=ten), tables=tables)
        expected = (None, (-2, 1), (0, 1), (1, 4), (7, 10), (10, 1), (31, 3), (20, 1), (22, 1))
        self.assertEqual(values(first, second), expected)
        self.assertEqual(list(rows_to_test(first, second, 0)), [(cell,) for cell in expected])
        self.assertTrue(all(same(first, second, (((1, (cell,)),),)) for cell in expected[:3]))
        self.assertFalse(same(first, second, (((1, ((1, 4),)),),)))


class ValueTest(unittest.TestCase):
    def test_columns_that_do_not_matter(self):
        layer = layer_of("rule", X, transforms=where(("=", N, ("cell", (1, 1)))))
        spec = spec_of(layer)
        self.assertEqual([values(spec, spec, place) for place in (1, 2, 3)], [(None,)] * 3)
        self.assertEqual(values(spec_of(), spec_of()), (None,))
        other = spec_of(layer_of("rule", X, table="u"))
        self.assertEqual(values(other, other), (None,))

    def test_a_column_that_matters_in_one_specification(self):
        filtered = spec_of(layer_of("rule", X, transforms=where(P)))
        shown = spec_of(layer_of("rule", X, ("color", P)), color=("plain", ("of", (True,)), None))
        for spec in (filtered, shown):
            self.assertEqual(values(spec, spec_of(), 3), (None, False, True))
            self.assertEqual(values(spec_of(), spec, 3), (None, False, True))

    def test_columns_of_tests_without_limits(self):
        spec = spec_of(layer_of("rule", X, transforms=where(("missing", N), ("missing", S))))
        self.assertEqual(values(spec, spec), (None,) + whole(0, 1))
        self.assertEqual(values(spec, spec, 2), (None, "", " "))

    def test_classes_by_filters(self):
        spec = spec_of(layer_of("rule", X, transforms=where(("<", N, ("cell", (3, 1))))))
        # The candidates are 1 to 5.
        self.assertEqual(values(spec, spec), (None,) + whole(1, 2, 3, 5))
        spec = spec_of(layer_of("rule", X, transforms=where(("=", N, ("cell", (3, 1))))))
        self.assertEqual(values(spec, spec), (None,) + whole(1, 3, 5))
        spec = spec_of(layer_of("rule", X, transforms=where(("in", S, ("b", "d")))))
        self.assertEqual(values(spec, spec, 2), (None, "", "b", "d", "d  "))
        # A test that only one of the specifications has counts, too.
        other = spec_of(layer_of("rule", X, transforms=where(("=", S, ("cell", "b")))))
        self.assertEqual(values(spec, other, 2), (None, "", "b", "d", "d  "))

    def test_tests_inside_formulas_count_each_by_itself(self):
        formula = ("and", ("cell", False), ("or", ("<", N, ("cell", (1, 1))), ("<", N, ("cell", (2, 1)))))
        spec = spec_of(layer_of("rule", X, transforms=where(formula)))
        # The candidates are -1, 0, 1, 3/2, 5/3, 2, 3 and 4.
        self.assertEqual(values(spec, spec), (None, (-1, 1), (0, 1), (1, 1), (5, 3), (2, 1), (4, 1)))

    def test_classes_by_features_that_do_not_exist(self):
        # All features are equal in a specification and itself.
        spec = spec_of(layer_of("rule", ("x", N)))
        self.assertEqual(values(spec, spec), APART)
        clamped = spec_of(layer_of("rule", ("x", N)), x=linear_scale("from", (0, 1), (4, 1), clamped=True))
        self.assertEqual(values(clamped, clamped), (None, (-2, 1), (6, 1)))
        bands = spec_of(layer_of("rule", ("x", S)), x=band_scale("of", ("b", "c")))
        self.assertEqual(values(bands, bands, 2), (None, "", "b", "c", "c  "))
        colors = spec_of(layer_of("rule", X, ("color", P)), color=("plain", ("of", (True,)), None))
        self.assertEqual(values(colors, colors, 3), (None, False, True))
        both = spec_of(layer_of("rule", X, ("color", P)), color=("plain", ("of", (True, False)), None))
        self.assertEqual(values(both, both, 3), (None, False, True))

    def test_classes_by_features_that_differ_in_the_two_specifications(self):
        layer = layer_of("rule", ("x", S), ("color", S))
        colors = ("plain", ("of", ("a", "b", "c")), None)
        first = spec_of(layer, x=band_scale("of", ("a", "b", "c")), color=colors)
        second = spec_of(layer, x=band_scale("of", ("c", "b", "a")), color=colors)
        # b is drawn the same in both, a and c are not.
        self.assertEqual(values(first, first, 2), (None, "", "a", "c", "c  "))
        self.assertEqual(values(first, second, 2), (None, "", "a", "b", "c", "c  "))

    def test_features_of_layers_with_other_marks_or_numbers_are_not_compared(self):
        rule, point = layer_of("rule", ("x", N)), layer_of("point", ("x", N), Y)
        backwards = linear_scale("from", (0, 1), (4, 1), backwards=True)
        self.assertEqual(values(spec_of(rule), spec_of(point, x=backwards)), APART)
        # The rules of the column are at 1 or 3, where the fixed rule of the other specification is, for 5/2 to 7/2.
        fixed = layer_of("rule", X)
        self.assertEqual(values(spec_of(rule, fixed), spec_of(fixed, rule, x=backwards)),
                         (None, (-2, 1), (0, 1), (5, 2), (19, 6), (4, 1), (6, 1)))
        self.assertNotEqual(values(spec_of(rule), spec_of(rule, x=backwards)), APART)

    def test_a_feature_that_depends_on_a_column_in_one_specification(self):
        shown, fixed = spec_of(layer_of("rule", ("x", N))), spec_of(layer_of("rule", X))
        # Both are at the pixel 1 for the numbers from 1/2 to 3/2 without the latter, among them 1 and 7/6.
        expected = (None, (-2, 1), (0, 1), (1, 2), (7, 6), (4, 1), (6, 1))
        self.assertEqual(values(shown, fixed), expected)
        self.assertEqual(values(fixed, shown), expected)

    def test_a_feature_that_depends_on_another_column_in_the_other_specification(self):
        first, second = spec_of(layer_of("rule", ("x", N))), spec_of(layer_of("rule", ("x", M)))
        self.assertEqual(values(first, second), APART)

    def test_the_second_end_of_a_rule(self):
        # Without x2 the feature x2 depends on the column of x.
        first = spec_of(layer_of("rule", ("x", N), Y))
        second = spec_of(layer_of("rule", ("x", N), Y, ("x2", M)))
        third = spec_of(layer_of("rule", ("x", N), Y, ("x2", constant((3, 1)))))
        self.assertEqual(values(first, second), APART)
        self.assertEqual(values(first, third), (None, (-2, 1), (0, 1), (5, 2), (19, 6), (4, 1), (6, 1)))
        # The feature y of a rule without y depends on no column, also beside one that has it.
        alone, both = spec_of(layer_of("rule", ("x", N))), spec_of(layer_of("rule", ("x", N), ("y", constant((0, 1)))))
        self.assertEqual(values(alone, both), APART)

    def test_each_end_of_a_rule(self):
        for channels in ((("x", N), Y, ("x2", constant((3, 1)))), (X, Y, ("x2", N)),
                         (X, ("y", N), ("y2", constant((3, 1)))), (X, Y, ("y2", N))):
            spec = spec_of(layer_of("rule", *channels))
            self.assertEqual(values(spec, spec), APART)
        first, second = spec_of(layer_of("rule", X, ("y", N))), spec_of(layer_of("rule", X, ("y", N), ("y2", constant((3, 1)))))
        self.assertEqual(values(first, second), (None, (-2, 1), (0, 1), (5, 2), (19, 6), (4, 1), (6, 1)))

    def test_the_features_of_points_and_bars(self):
        for mark, channels, view in (("point", (X, Y), {}), ("bar", (("x", constant("k")), Y), {"x": band_scale("of", ("k",))})):
            colored = layer_of(mark, *channels, ("color", S))
            first, second = (spec_of(colored, color=("plain", ("of", cells), None), **view) for cells in (("a", "b"), ("b", "a")))
            self.assertEqual(values(first, first, 2), (None, "", "a", "b", "b  "))
            third = spec_of(colored, color=("plain", ("of", ("a", "c")), None), **view)
            self.assertEqual(values(first, third, 2), (None, "", "a", "b", "c", "c  "))
            self.assertEqual(values(first, second, 2), (None, "", "a", "b", "b  "))
        for mark, channels, view in (("point", (("x", N), Y), {}), ("point", (X, ("y", N)), {}),
                                     ("bar", (("x", constant("k")), ("y", N)), {"x": band_scale("of", ("k",))}),
                                     ("bar", (("x", N), ("y", constant("k"))), {"y": band_scale("of", ("k",))})):
            spec = spec_of(layer_of(mark, *channels), **view)
            self.assertEqual(values(spec, spec), APART)

    def test_layers_with_other_data_tables_are_not_compared(self):
        first = spec_of(layer_of("rule", ("x", S)), x=band_scale("of", ("a", "b")))
        second = spec_of(layer_of("rule", ("x", column("k")), table="u"), x=band_scale("of", ("b", "a")))
        self.assertEqual(values(first, second, 2), (None, "", "a", "b", "b  "))
        self.assertEqual(values(first, second, 0, table=1), (None, "", "a", "b", "b  "))

    def test_the_first_and_the_last_candidate_of_each_class(self):
        random = Random(367)
        lengths = set()
        for _ in range(300):
            first, second = (comparable(random) for _ in range(2))
            for place in range(len(COLUMNS)):
                found = values(first, second, place)
                self.assertEqual(found, expected_values(first, second, place))
                lengths.add(len(found))
        self.assertLessEqual({1, 3, 4, 5, 6, 7}, lengths)


class RowTest(unittest.TestCase):
    def test_lexicographic_order(self):
        layer = layer_of("rule", X, transforms=where(P, ("missing", N), ("missing", S)))
        spec = spec_of(layer)
        self.assertEqual(list(rows_to_test(spec, spec, 0)), list(product(
            (None, (0, 1), (1, 1)), (None,), (None, "", " "), (None, False, True))))

    def test_tables_that_no_layer_has(self):
        spec = spec_of(layer_of("rule", X, transforms=where(P)))
        self.assertEqual(list(rows_to_test(spec, spec, 1)), [])
        self.assertEqual(len(list(rows_to_test(spec, spec_of(), 0))), 3)
        self.assertEqual(len(list(rows_to_test(spec_of(), spec, 0))), 3)
        self.assertEqual(list(rows_to_test(spec_of(), spec_of(), 0)), [])

    def test_tables_without_columns_that_matter(self):
        spec = spec_of(layer_of("rule", X))
        self.assertEqual(list(rows_to_test(spec, spec, 0)), [(None,) * 4])

    def test_far_too_many_rows_are_not_made_at_once(self):
        cells = tuple("abcdefgh")
        columns = tuple((name, "text") for name in cells[:6])
        conditions = [("in", column(name), cells) for name in cells[:6]]
        equal = tuple(("=", column(name), ("cell", cell)) for name in cells[:6] for cell in cells)
        layers = [layer_of("rule", X, transforms=where(*conditions[:4]))]
        layers += [layer_of("rule", X, transforms=where(*equal[at:at + 4])) for at in range(0, 12, 4)]
        spec = chart_of(view_of(*layers), tables=(("t", columns),))
        found = list(islice(rows_to_test(spec, spec, 0), 1000))
        self.assertEqual(found[0], (None,) * 6)
        self.assertEqual(len(set(found)), 1000)

    def test_each_row_is_one_of_test_values(self):
        random = Random(368)
        for _ in range(30):
            first, second = (comparable(random) for _ in range(2))
            for table, (_, columns) in enumerate(TABLES):
                layers = [layer for spec in (first, second) for layer in spec[2][0][6] if layer[0] == TABLES[table][0]]
                each = [values(first, second, place, table) for place in range(len(columns))]
                count = 1
                for found in each:
                    count *= len(found)
                expected = list(islice(product(*each), 500)) if layers else []
                self.assertEqual(list(islice(rows_to_test(first, second, table), 500)), expected)


def expected_values(first, second, place):
    """The test values of a column of the first table by the words of the document."""
    name, kind = COLUMNS[place]
    layers = [(each, at, layer) for each, spec in enumerate((first, second)) for at, layer in enumerate(spec[2][0][6])]
    if name not in [name for _, _, layer in layers for name in names_in(layer)]:
        return (None,)
    found = candidates(kind, limits_of(first, second, 0, place))
    classes = [class_of(first, second, layers, place, value) for value in found]
    ends = [at for at, mark in enumerate(classes) if mark not in classes[:at] or mark not in classes[at + 1:]]
    return (None,) + tuple(found[at] for at in ends)


def class_of(first, second, layers, place, value):
    """What must be the same for the candidates of a class."""
    cells = tuple(value if at == place else None for at in range(len(COLUMNS)))
    name = COLUMNS[place][0]
    tests, lacking, seen = [], [], {}
    for each, at, layer in layers:
        tests += [evaluate(test, COLUMNS, cells) for _, test in layer[1] if name in names_of(test)]
        frame = frame_of((first, second)[each], 0, (((), ()),) * len((first, second)[each][2][0][6]))[0]
        words = ("color", "x", "y") if layer[2] == "point" else ("color", "x", "y", "x2", "y2")
        for word, feature in zip(words, features(frame, at, layer, COLUMNS, cells)):
            sources = dict(layer[3])
            source = sources.get(word) or (sources.get(word[0]) if word in ("x2", "y2") else None)
            own = source[1] if source and source[0] == "column" else None
            seen[each, at, layer[2], word] = (own, feature)
            if own == name:
                lacking.append(feature is None)
    pairs = [(seen[key], seen[(1,) + key[1:]]) for key in seen if key[0] == 0 and (1,) + key[1:] in seen]
    equal = [one[1] == two[1] for one, two in pairs if name in (one[0], two[0]) and {one[0], two[0]} <= {name, None}]
    return (tests, lacking, equal)


def names_in(layer):
    """The names of the columns in the filters and the channels of a layer."""
    return [name for _, test in layer[1] for name in names_of(test)] + [
        source[1] for _, source in layer[3] if source[0] == "column"]


def names_of(test):
    return [part[1] for part in test[1:] if part[0] == "column"]


def comparable(random):
    """A specification over TABLES that passes step 3 of point 362, by a seeded generator."""
    kinds = [random.choice(("number", "text", "boolean")) for _ in range(2)]
    scales = [SHORT if kind == "number" else band_scale("of", ("a", "b") if kind == "text" else (True, False))
              for kind in kinds]
    layers = []
    for _ in range(random.randrange(1, 3)):
        channels = []
        for word, kind in zip(("x", "y"), kinds):
            fitting = [column(name) for name, own in COLUMNS if own == kind]
            cell = some_cell(random, kind)
            if cell is not None:
                fitting.append(constant(cell))
            channels.append((word, random.choice(fitting)))
        name, kind = random.choice(COLUMNS)
        test = ("missing", column(name))
        if random.random() < 0.7:
            test = (random.choice(("=", "<", ">=")), column(name), ("cell", some_cell(random, kind) or False))
            if kind != "boolean" and test[2] == ("cell", False):
                test = ("missing", column(name))
        layers.append(layer_of(random.choice(("point", "rule")), *channels, transforms=where(test)))
    return chart_of(view_of(*layers, size=(4, 4), x=scales[0], y=scales[1]), tables=TABLES)


if __name__ == "__main__":
    unittest.main()
