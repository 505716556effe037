"""Points 365 and 366."""

import copy
import unittest
from fractions import Fraction
from itertools import product

from samples import band_scale, chart_of, column, constant, layer_of, linear_scale, pair, view_of, whole

from chartspec.limits import candidates, limits_of, scale_values

COLUMNS = (("n", "number"), ("m", "number"), ("s", "text"), ("p", "boolean"))
TABLES = (("t", COLUMNS), ("u", (("n", "number"), ("k", "text"))))
N, S, P = (column(name) for name in "nsp")
X, Y = ("x", constant((1, 1))), ("y", constant((1, 1)))
CHARACTERS = "".join(chr(code) for code in range(32, 127) if chr(code) != "%")


def where(*conditions):
    return tuple(("filter", condition) for condition in conditions)


def spec_of(*layers, **view):
    return chart_of(view_of(*layers, **view), tables=TABLES)


class ScaleValuesTest(unittest.TestCase):
    def test_a_linear_ruler(self):
        self.assertEqual(scale_values(("linear", whole(0, 4), 4, False, False)),
                         ((0, 1), (1, 2), (3, 2), (5, 2), (7, 2), (4, 1)))
        self.assertEqual(scale_values(("linear", ((-1, 3), (1, 3)), 1, True, True)), ((-1, 3), (0, 1), (1, 3)))

    def test_all_edges(self):
        for low, high, length in ((Fraction(0), Fraction(10), 20), (Fraction(-7, 3), Fraction(1, 2), 7)):
            edges = [low + (2 * place - 1) * (high - low) / (2 * length) for place in range(1, length + 1)]
            for backwards, clamped in product((False, True), (False, True)):
                self.assertEqual(scale_values(("linear", (pair(low), pair(high)), length, backwards, clamped)),
                                 tuple(pair(value) for value in [low, *edges, high]))

    def test_a_band_ruler(self):
        self.assertEqual(scale_values(("band", ("b", "a"), 20, True, False)), ("b", "a"))
        self.assertEqual(scale_values(("band", (), 20, False, False)), ())


class LimitsTest(unittest.TestCase):
    one = linear_scale("from", (0, 1), (1, 1))
    short = ((0, 1), (1, 8), (3, 8), (5, 8), (7, 8), (1, 1))

    def limits(self, first, second=None, table=0, place=0):
        arguments = (first, spec_of() if second is None else second, table, place)
        before = copy.deepcopy(arguments)
        found = limits_of(*arguments)
        self.assertEqual(arguments, before)
        self.assertEqual(limits_of(arguments[1], arguments[0], table, place), found)
        return found

    def test_comparisons_in_filters(self):
        conditions = (("or", ("<", N, ("cell", (5, 1))), ("not", ("=", ("cell", (-1, 2)), N))), (">", N, ("cell", (5, 1))))
        layer = layer_of("point", X, Y, transforms=where(*conditions))
        self.assertEqual(self.limits(spec_of(layer)), ((-1, 2), (5, 1)))
        self.assertEqual(self.limits(spec_of(layer), place=1), ())

    def test_lists_in_filters(self):
        layer = layer_of("point", X, Y, transforms=where(("and", ("in", S, ("z", "", "b")), ("=", S, ("cell", "c")))))
        self.assertEqual(self.limits(spec_of(layer), place=2), ("", "b", "c", "z"))

    def test_tests_without_cells(self):
        layer = layer_of("point", X, Y, transforms=where(("or", ("missing", N), P), ("cell", False), ("nothing", "boolean")))
        for place in range(4):
            self.assertEqual(self.limits(spec_of(layer), place=place), ())

    def test_booleans(self):
        layer = layer_of("point", X, Y, transforms=where(("=", P, ("cell", True))))
        self.assertEqual(self.limits(spec_of(layer), place=3), (True,))
        layer = layer_of("point", X, Y, transforms=where(("in", P, (True, False))))
        self.assertEqual(self.limits(spec_of(layer), place=3), (False, True))

    def test_linear_scales(self):
        for layer, view in ((layer_of("point", ("x", N), Y), {"x": self.one, "size": (4, 9)}),
                            (layer_of("point", ("y", N), X), {"y": self.one, "size": (9, 4)}),
                            (layer_of("rule", ("x2", N), X, Y), {"x": self.one, "size": (4, 9)}),
                            (layer_of("rule", ("y2", N), X, Y), {"y": self.one, "size": (9, 4)})):
            self.assertEqual(self.limits(spec_of(layer, **view)), self.short)
            self.assertEqual(self.limits(spec_of(layer, **view), place=1), ())
        backwards = linear_scale("from", (0, 1), (1, 1), backwards=True, clamped=True)
        layer = layer_of("rule", ("x", N))
        self.assertEqual(self.limits(spec_of(layer, x=backwards, size=(4, 9))), self.short)

    def test_band_scales_and_color_scales(self):
        bands = band_scale("of", ("q", "p"))
        self.assertEqual(self.limits(spec_of(layer_of("rule", ("x", S)), x=bands), place=2), ("p", "q"))
        layer = layer_of("rule", ("x", S), ("color", S))
        self.assertEqual(self.limits(spec_of(layer, x=bands, color=("plain", ("of", ("r", "p")), None)), place=2),
                         ("p", "q", "r"))
        numbers = ("plain", ("of", ((7, 1), (1, 3))), None)
        self.assertEqual(self.limits(spec_of(layer_of("rule", X, ("color", N)), color=numbers)), ((1, 3), (7, 1)))

    def test_each_once_for_all_layers_of_both_specifications(self):
        first = chart_of(view_of(layer_of("rule", ("x", N)), name="a", x=self.one, size=(4, 9)),
                         view_of(layer_of("rule", X, transforms=where(("=", N, ("cell", (3, 8))))), name="b"), tables=TABLES)
        second = spec_of(layer_of("rule", X), layer_of("rule", X, transforms=where(("<", N, ("cell", (1, 2))))))
        self.assertEqual(self.limits(first, second), ((0, 1), (1, 8), (3, 8), (1, 2), (5, 8), (7, 8), (1, 1)))

    def test_layers_with_other_data_tables(self):
        layer = layer_of("rule", ("x", N), table="u", transforms=where(("=", N, ("cell", (5, 1)))))
        spec = spec_of(layer, x=self.one, size=(4, 9))
        self.assertEqual(self.limits(spec), ())
        self.assertEqual(self.limits(spec, table=1), self.short + ((5, 1),))

    def test_fractions_that_are_no_numbers(self):
        scale = linear_scale("from", (0, 1), (1, 10 ** 11))
        found = self.limits(spec_of(layer_of("rule", ("x", N)), x=scale, size=(400, 9)))
        self.assertEqual(found[1], (1, 8 * 10 ** 13))


class CandidatesTest(unittest.TestCase):
    def test_booleans(self):
        for limits in ((), (False,), (True,), (False, True)):
            self.assertEqual(candidates("boolean", limits), (False, True))

    def test_numbers(self):
        self.assertEqual(candidates("number", ()), whole(0, 1))
        self.assertEqual(candidates("number", ((3, 1),)), whole(1, 2, 3, 4, 5))
        self.assertEqual(candidates("number", ((-1, 2), (1, 3))),
                         ((-5, 2), (-3, 2), (-1, 2), (0, 1), (1, 8), (1, 3), (4, 3), (7, 3)))
        self.assertEqual(candidates("number", whole(0, 2)), whole(-2, -1, 0, 1) + ((4, 3),) + whole(2, 3, 4))

    def test_numbers_in_lowest_terms_and_in_ascending_order(self):
        limits = tuple(pair(value) for value in sorted({Fraction(above, below) for above in range(-9, 10)
                                                        for below in range(1, 7)}))
        found = candidates("number", limits)
        values = [Fraction(*value) for value in found]
        self.assertEqual(found, tuple(pair(value) for value in values))
        self.assertEqual(values, sorted(set(values)))
        self.assertEqual(len(found), 3 * len(limits) + 2)
        self.assertEqual(found[2:-2:3], limits)

    def test_fractions_that_are_no_numbers(self):
        low, high = Fraction(1, 10 ** 19), Fraction(2, 10 ** 19 + 1)
        below = low.denominator + high.denominator
        expected = (low - 2, low - 1, low, Fraction(3, below), Fraction(5, below + high.denominator), high, high + 1,
                    high + 2)
        self.assertEqual(candidates("number", (pair(low), pair(high))), tuple(pair(value) for value in expected))

    def test_texts(self):
        self.assertEqual(candidates("text", ()), ("", " "))
        self.assertEqual(candidates("text", ("b",)), ("", " ", "b", "b ", "b  "))
        self.assertEqual(candidates("text", ("b", "c")), ("", " ", "b", "b ", "b  ", "c", "c ", "c  "))

    def test_texts_before_the_first_limit(self):
        self.assertEqual(candidates("text", ("",)), ("", " ", "  "))
        self.assertEqual(candidates("text", (" ",)), ("", " ", "  ", "   "))
        self.assertEqual(candidates("text", ("  ",)), ("", " ", "  ", "   ", "    "))
        self.assertEqual(candidates("text", ("!",)), ("", " ", "!", "! ", "!  "))

    def test_texts_between_limits(self):
        self.assertEqual(candidates("text", ("b", "b ")), ("", " ", "b", "b ", "b  ", "b   "))
        self.assertEqual(candidates("text", ("b", "b  ")), ("", " ", "b", "b ", "b  ", "b   ", "b    "))
        self.assertEqual(candidates("text", ("b", "b  !")), ("", " ", "b", "b ", "b  ", "b  !", "b  ! ", "b  !  "))
        self.assertEqual(candidates("text", ("", " ", "a")), ("", " ", "  ", "   ", "a", "a ", "a  "))

    def test_texts_of_39_and_of_40_characters(self):
        long = "a" * 39
        self.assertEqual(candidates("text", (long,))[2:], (long, long + " ", long + "!"))
        self.assertEqual(candidates("text", (long + " ",))[2:], (long + " ", long + "!", long + '"'))
        self.assertEqual(candidates("text", (long + "$",))[2:], (long + "$", long + "&", long + "'"))
        self.assertEqual(candidates("text", ("a" * 40,))[2:], ("a" * 40, "a" * 39 + "b", "a" * 39 + "c"))

    def test_texts_with_the_last_character_at_their_end(self):
        self.assertEqual(candidates("text", ("ab" + "~" * 38,))[2:], ("ab" + "~" * 38, "ac", "ac "))
        self.assertEqual(candidates("text", ("a" * 39 + "~",))[2:], ("a" * 39 + "~", "a" * 38 + "b", "a" * 38 + "b "))
        self.assertEqual(candidates("text", ("a" * 38 + "~",))[2:], ("a" * 38 + "~", "a" * 38 + "~ ", "a" * 38 + "~!"))
        self.assertEqual(candidates("text", ("a" + "~" * 39, "b"))[2:], ("a" + "~" * 39, "b", "b ", "b  "))
        self.assertEqual(candidates("text", ("$" + "~" * 39,))[2:], ("$" + "~" * 39, "&", "& "))
        self.assertEqual(candidates("text", ("~" * 40,))[2:], ("~" * 40,))
        self.assertEqual(candidates("text", ("~" * 39 + "}",))[2:], ("~" * 39 + "}", "~" * 40))
        self.assertEqual(candidates("text", ("~" * 39,))[2:], ("~" * 39, "~" * 39 + " ", "~" * 39 + "!"))

    def test_the_text_directly_after_another_one(self):
        """No text comes between a limit and the two candidates after it: the next one is made by the least change."""
        for last, following in zip(CHARACTERS, CHARACTERS[1:]):
            for start in ("a" * 39, "~" * 39):
                found = candidates("text", (start + last,))
                self.assertEqual(found[3], start + following)


if __name__ == "__main__":
    unittest.main()
