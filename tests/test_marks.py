"""Points 240 to 243, with points 181, 182, 221 and 224."""

import copy
import unittest
from fractions import Fraction
from itertools import product
from math import floor

from samples import column, constant, layer_of, whole

from chartspec.colors import palette_colors
from chartspec.marks import row_color, row_mark

TEN = ("linear", whole(0, 10), 20, False, False)
TURNED = ("linear", whole(0, 10), 20, True, False)
CLAMPED = ("linear", whole(0, 10), 20, False, True)
ABC = ("band", ("a", "b", "c"), 20, False, False)
TURNED_ABC = ("band", ("a", "b", "c"), 20, True, False)
COLUMNS = (("n", "number"), ("m", "number"), ("s", "text"), ("p", "boolean"))
COLORS = ("a", "b")
PAINT = "#123456"
N, M, S, P = (column(name) for name in "nmsp")


def frame_with(x=TEN, y=TEN, palette="plain", categories=COLORS, number=0):
    return (number, x, y, palette, categories)


def row_of(n=None, m=None, s=None, p=None, key=whole(7)):
    """A row of COLUMNS, where integers stand for numbers."""
    cells = [(cell, 1) if isinstance(cell, int) and not isinstance(cell, bool) else cell for cell in (n, m, s, p)]
    return (key, tuple(cells), (7,))


def mark_of(mark, row, *channels, **frame):
    """The shape, the points, the text, the fill and the stroke of a mark, or None."""
    found = row_mark(frame_with(**frame), 1, layer_of(mark, *channels, paint=PAINT), COLUMNS, row)
    return None if found is None else found[3:8]


class PrimitiveTest(unittest.TestCase):
    def test_what_a_primitive_has(self):
        layer = layer_of("point", ("x", N), ("y", M))
        frame = frame_with(number=2, y=("linear", whole(0, 10), 30, False, False))
        self.assertEqual(row_mark(frame, 3, layer, COLUMNS, row_of(1, 2, key=("a", None, (1, 2)))),
                         (2, "mark 3", '"a",-,0.5', "circle", (2, 24, 3), "", "#000000", None, (0, 0, 21, 31)))

    def test_the_key_of_a_row_of_a_group_without_columns_is_empty(self):
        layer = layer_of("point", ("x", N), ("y", M))
        self.assertEqual(row_mark(frame_with(), 0, layer, COLUMNS, row_of(1, 2, key=()))[2], "")

    def test_arguments_stay_as_they_are(self):
        arguments = (frame_with(x=ABC), 0, layer_of("bar", ("x", S), ("y", N), ("color", S)), COLUMNS, row_of(1, s="a"))
        before = copy.deepcopy(arguments)
        self.assertIsNotNone(row_mark(*arguments))
        self.assertEqual(arguments, before)


class ColorTest(unittest.TestCase):
    def color(self, cell, source=S, **frame):
        layer = layer_of("point", ("x", N), ("y", N), ("color", source), paint=PAINT)
        return row_color(frame_with(**frame), layer, COLUMNS, row_of(s=cell)[1])

    def test_without_the_channel_it_is_the_paint(self):
        layer = layer_of("point", ("x", N), ("y", N), paint=PAINT)
        self.assertEqual(row_color(frame_with(), layer, COLUMNS, row_of()[1]), PAINT)

    def test_a_column(self):
        self.assertEqual(self.color("a"), "#3a6ea8")
        self.assertEqual(self.color("b"), "#e5832f")
        self.assertEqual(self.color("b", palette="safe"), "#dd9911")

    def test_a_constant(self):
        self.assertEqual(self.color(None, constant("b")), "#e5832f")
        self.assertIsNone(self.color("a", constant("c")))

    def test_no_color(self):
        self.assertIsNone(self.color(None))
        self.assertIsNone(self.color("c"))
        self.assertIsNone(self.color("a", categories=()))

    def test_from_the_ninth_category_on_there_is_none(self):
        letters = tuple("abcdefghij")
        for number, letter in enumerate(letters):
            expected = palette_colors("dark")[number] if number < 8 else None
            self.assertEqual(self.color(letter, palette="dark", categories=letters), expected)

    def test_categories_of_other_kinds(self):
        layer = layer_of("point", ("x", N), ("y", N), ("color", P))
        self.assertEqual(row_color(frame_with(categories=(False, True)), layer, COLUMNS, row_of(p=True)[1]), "#e5832f")
        layer = layer_of("point", ("x", N), ("y", N), ("color", N))
        self.assertEqual(row_color(frame_with(categories=((1, 1), (1, 2))), layer, COLUMNS, row_of(n=(1, 2))[1]),
                         "#e5832f")

    def test_a_row_without_color_is_not_drawn(self):
        for mark, channels in (("point", ()), ("text", (("text", constant("t")),)), ("rule", ()),
                               ("bar", (("x2", constant((9, 1))),))):
            given = (("x", N), ("y", M), ("color", S)) + channels
            self.assertIsNotNone(mark_of(mark, row_of(1, 2, "a"), *given))
            self.assertIsNone(mark_of(mark, row_of(1, 2, "c"), *given))
            self.assertIsNone(mark_of(mark, row_of(1, 2, None), *given))
            self.assertIn("#e5832f", mark_of(mark, row_of(1, 2, "b"), *given))


class PointTest(unittest.TestCase):
    def test_a_circle(self):
        self.assertEqual(mark_of("point", row_of(3, 10), ("x", N), ("y", M)), ("circle", (6, 0, 3), "", PAINT, None))
        self.assertEqual(mark_of("point", row_of(3, 10), ("x", M), ("y", N), y=TURNED),
                         ("circle", (20, 6, 3), "", PAINT, None))

    def test_a_band(self):
        self.assertEqual(mark_of("point", row_of(0, s="b"), ("y", N), ("x", S), x=ABC)[1], (9, 20, 3))
        self.assertEqual(mark_of("point", row_of(0, s="a"), ("x", N), ("y", S), y=TURNED_ABC)[1], (0, 3, 3))

    def test_constants_and_one_column_for_two_channels(self):
        self.assertEqual(mark_of("point", row_of(), ("x", constant((1, 2))), ("y", constant((10, 1))))[1], (1, 0, 3))
        self.assertEqual(mark_of("point", row_of(4), ("x", N), ("y", N))[1], (8, 12, 3))
        self.assertEqual(mark_of("point", row_of(4, s="b"), ("x", N), ("y", S), ("color", S), y=ABC),
                         ("circle", (8, 11, 3), "", "#e5832f", None))

    def test_what_has_no_pixel(self):
        given = (("x", N), ("y", M))
        for row in (row_of(None, 1), row_of(1, None), row_of(-1, 1), row_of(1, 11), row_of((-1, 10 ** 11), 1)):
            self.assertIsNone(mark_of("point", row, *given))
        self.assertEqual(mark_of("point", row_of(-5, 11), *given, x=CLAMPED, y=CLAMPED)[1], (0, 0, 3))
        self.assertIsNone(mark_of("point", row_of(None, 11), *given, x=CLAMPED, y=CLAMPED))
        self.assertIsNone(mark_of("point", row_of(1, s="d"), ("x", N), ("y", S), y=ABC))
        self.assertIsNone(mark_of("point", row_of(1, s=None), ("x", N), ("y", S), y=ABC))
        self.assertIsNone(mark_of("point", row_of(1), ("x", constant((11, 1))), ("y", N)))


class TextTest(unittest.TestCase):
    def test_a_text(self):
        self.assertEqual(mark_of("text", row_of(3, 0, "two words"), ("x", N), ("y", M), ("text", S)),
                         ("text middle", (6, 17), "two words", PAINT, None))
        self.assertEqual(mark_of("text", row_of(3, 4, "a"), ("x", N), ("y", M), ("text", S))[1], (6, 9))

    def test_texts_of_other_cells(self):
        for source, text in ((N, "0.5"), (P, "false"), (M, "-1/3"), (constant(True), "true"), (constant(""), "")):
            self.assertEqual(mark_of("text", row_of((1, 2), (-1, 3), p=False), ("text", source), ("x", N), ("y", N))[2],
                             text)

    def test_a_missing_text(self):
        self.assertIsNone(mark_of("text", row_of(3, 0, None), ("x", N), ("y", M), ("text", S)))
        self.assertIsNone(mark_of("text", row_of(3, None, "a"), ("x", N), ("y", M), ("text", S)))
        self.assertEqual(mark_of("text", row_of(3, 0, ""), ("x", N), ("y", M), ("text", S))[2], "")


class RuleTest(unittest.TestCase):
    def rule(self, row, *channels, **frame):
        found = mark_of("rule", row, *channels, **frame)
        if found is None:
            return None
        self.assertEqual((found[0], found[2:]), ("line", ("", None, PAINT)))
        return found[1]

    def test_x_alone_and_y_alone(self):
        wide = ("linear", whole(0, 10), 50, False, False)
        self.assertEqual(self.rule(row_of(3), ("x", N), y=wide), (6, 50, 6, 0))
        self.assertEqual(self.rule(row_of(3), ("y", N), x=wide), (0, 14, 50, 14))
        self.assertEqual(self.rule(row_of(s="a"), ("x", S), x=TURNED_ABC), (17, 20, 17, 0))
        self.assertIsNone(self.rule(row_of(None), ("x", N)))
        self.assertIsNone(self.rule(row_of(11), ("y", N)))

    def test_x_and_y(self):
        self.assertEqual(self.rule(row_of(3, 4), ("x", N), ("y", M)), (6, 12, 6, 12))

    def test_a_second_end(self):
        x, y = ("x", constant((1, 1))), ("y", constant((2, 1)))
        self.assertEqual(self.rule(row_of(5), x, y, ("x2", N)), (2, 16, 10, 16))
        self.assertEqual(self.rule(row_of(0), x, y, ("x2", N)), (2, 16, 0, 16))
        self.assertEqual(self.rule(row_of(5), ("y2", N), y, x), (2, 16, 2, 10))
        self.assertEqual(self.rule(row_of(5, 7), x, y, ("x2", N), ("y2", M)), (2, 16, 10, 6))

    def test_a_second_end_without_a_pixel(self):
        x, y = ("x", constant((1, 1))), ("y", constant((2, 1)))
        for row in (row_of(None, 1), row_of(1, None), row_of(-1, 1), row_of(1, 12)):
            self.assertIsNone(self.rule(row, x, y, ("x2", N), ("y2", M)))
        for missing in (("x", N), ("y", N)):
            self.assertIsNone(self.rule(row_of(None, 1), missing, (x if missing[0] == "y" else y), ("x2", M)))


class BarTest(unittest.TestCase):
    def bar(self, row, *channels, **frame):
        found = mark_of("bar", row, *channels, **frame)
        if found is None:
            return None
        self.assertEqual((found[0], found[2:]), ("rectangle", ("", PAINT, None)))
        return found[1]

    def test_vertical_on_a_band_ruler(self):
        given = (("x", S), ("y", N))
        self.assertEqual(self.bar(row_of(3, s="b"), *given, x=ABC), (6, 14, 7, 6))
        # The bands of a ruler with two categories and 100 pixels lose five pixels on each side.
        wide = ("band", ("north", "south"), 100, False, False)
        self.assertEqual(self.bar(row_of(10, s="north"), *given, x=wide), (5, 0, 40, 20))
        self.assertEqual(self.bar(row_of(10, s="south"), *given, x=wide), (55, 0, 40, 20))

    def test_the_rims_of_bands(self):
        for length, left, width in ((9, 0, 9), (10, 1, 8), (19, 1, 17), (20, 2, 16), (1, 0, 1)):
            one = ("band", ("a",), length, False, False)
            found = self.bar(row_of(10, s="a"), ("x", S), ("y", N), x=one)
            self.assertEqual((found[0], found[2]), (left, width))

    def test_horizontal_on_a_band_ruler(self):
        given = (("x", N), ("y", S))
        self.assertEqual(self.bar(row_of(3, s="b"), *given, y=ABC), (0, 7, 6, 7))
        self.assertEqual(self.bar(row_of(3, s="a"), *given, y=TURNED_ABC), (0, 0, 6, 6))
        self.assertEqual(self.bar(row_of(3, s="a"), *given, y=ABC), (0, 14, 6, 6))

    def test_a_second_end(self):
        self.assertEqual(self.bar(row_of(3, 7, s="a"), ("x", S), ("y", M), ("y2", N), x=ABC), (0, 6, 6, 8))
        self.assertEqual(self.bar(row_of(3, 7, s="a"), ("y", S), ("x", M), ("x2", N), y=ABC), (6, 14, 8, 6))
        self.assertEqual(self.bar(row_of(3, 3, s="a"), ("y", S), ("x", M), ("x2", N), y=ABC), (6, 14, 0, 6))

    def test_the_second_end_must_not_come_after_the_value(self):
        self.assertIsNone(self.bar(row_of(7, 3, s="a"), ("x", S), ("y", M), ("y2", N), x=ABC))
        self.assertIsNone(self.bar(row_of(7, 3, s="a"), ("y", S), ("x", M), ("x2", N), y=ABC))
        # Both have one pixel, but the order of the cells decides.
        self.assertIsNone(self.bar(row_of((301, 100), 3, s="a"), ("x", S), ("y", M), ("y2", N), x=ABC))
        self.assertIsNone(self.bar(row_of(12, 11, s="a"), ("x", S), ("y", M), ("y2", N), x=ABC, y=CLAMPED))
        self.assertEqual(self.bar(row_of(11, 12, s="a"), ("x", S), ("y", M), ("y2", N), x=ABC, y=CLAMPED), (0, 0, 6, 0))

    def test_what_has_no_pixel(self):
        for row in (row_of(None, 1, "a"), row_of(1, None, "a"), row_of(1, 2, None), row_of(1, 2, "d"),
                    row_of(-1, 2, "a"), row_of(1, 11, "a")):
            self.assertIsNone(self.bar(row, ("x", S), ("y", M), ("y2", N), x=ABC))
            self.assertIsNone(self.bar(row, ("y", S), ("x", M), ("x2", N), y=ABC))
        for row in (row_of(None, s="a"), row_of(11, s="a"), row_of(-1, s="a")):
            self.assertIsNone(self.bar(row, ("x", S), ("y", N), x=ABC))
            self.assertIsNone(self.bar(row, ("y", S), ("x", N), y=ABC))

    def test_a_reversed_ruler(self):
        self.assertEqual(self.bar(row_of(3, s="a"), ("x", S), ("y", N), x=ABC, y=TURNED), (0, 0, 6, 6))
        self.assertEqual(self.bar(row_of(3, s="a"), ("x", N), ("y", S), x=TURNED, y=ABC), (14, 14, 6, 6))
        self.assertEqual(self.bar(row_of(3, 7, "a"), ("x", M), ("x2", N), ("y", S), x=TURNED, y=ABC), (6, 14, 8, 6))

    def test_a_clamped_ruler(self):
        self.assertEqual(self.bar(row_of(12, s="a"), ("x", S), ("y", N), x=ABC, y=CLAMPED), (0, 0, 6, 20))
        self.assertEqual(self.bar(row_of(-12, s="a"), ("x", S), ("y", N), x=ABC, y=CLAMPED), (0, 20, 6, 0))

    def test_zero_outside_the_domain(self):
        above = ("linear", whole(5, 10), 20, False, False)
        below = ("linear", whole(-10, -5), 20, False, False)
        around = ("linear", whole(-5, 5), 20, False, False)
        self.assertEqual(self.bar(row_of(6, s="a"), ("x", S), ("y", N), x=ABC, y=above), (0, 16, 6, 4))
        self.assertEqual(self.bar(row_of(-6, s="a"), ("x", S), ("y", N), x=ABC, y=below), (0, 0, 6, 4))
        self.assertEqual(self.bar(row_of(-6, s="a"), ("y", S), ("x", N), y=ABC, x=below), (16, 14, 4, 6))
        self.assertEqual(self.bar(row_of(-2, s="a"), ("x", S), ("y", N), x=ABC, y=around), (0, 10, 6, 4))
        self.assertEqual(self.bar(row_of(2, s="a"), ("x", S), ("y", N), x=ABC, y=around), (0, 6, 6, 4))
        self.assertEqual(self.bar(row_of(0, s="a"), ("x", S), ("y", N), x=ABC, y=around), (0, 10, 6, 0))

    def test_two_linear_rulers(self):
        y = ("y", constant((5, 1)))
        self.assertEqual(self.bar(row_of(3, 7), ("x", N), ("x2", M), y), (6, 10, 8, 10))
        self.assertEqual(self.bar(row_of(3, 7), ("x", N), ("x2", M), y, x=TURNED), (6, 10, 8, 10))
        self.assertEqual(self.bar(row_of(2, 7), ("x", N), ("x2", M), y, x=TURNED), (6, 10, 10, 10))
        self.assertEqual(self.bar(row_of(3, 3), ("x", N), ("x2", M), y), (6, 10, 0, 10))
        self.assertEqual(self.bar(row_of(3, 7), ("x", N), ("x2", M), y, ("y2", N)), (6, 10, 8, 4))

    def test_on_two_linear_rulers_the_first_end_must_not_come_after_the_second_one(self):
        y = ("y", constant((5, 1)))
        self.assertIsNone(self.bar(row_of(7, 3), ("x", N), ("x2", M), y))
        self.assertIsNone(self.bar(row_of(3, (299, 100)), ("x", N), ("x2", M), y))
        self.assertIsNone(self.bar(row_of(12, 11), ("x", N), ("x2", M), y, x=CLAMPED))
        self.assertEqual(self.bar(row_of(11, 12), ("x", N), ("x2", M), y, x=CLAMPED), (20, 10, 0, 10))
        for row in (row_of(None, 1), row_of(1, None), row_of(-1, 1), row_of(1, 11)):
            self.assertIsNone(self.bar(row, ("x", N), ("x2", M), y))

    def test_all_pixels_of_linear_rulers(self):
        """All bars with two ends on small rulers, against the definition with Python's own fractions."""
        for backwards, clamped, low, high in product((False, True), (False, True), range(-3, 13), range(-3, 13)):
            ruler = ("linear", whole(0, 9), 7, backwards, clamped)

            def place(number):
                if not 0 <= number <= 9 and not clamped:
                    return None
                found = floor(Fraction(min(max(number, 0), 9) * 7, 9) + Fraction(1, 2))
                return 7 - found if backwards else found

            ends = [place(low), place(high)]
            expected = None
            if None not in ends and low <= high:
                expected = (min(ends), max(ends) - min(ends))
            found = self.bar(row_of(low, high), ("x", N), ("x2", M), ("y", constant((5, 1))), x=ruler)
            self.assertEqual(None if found is None else (found[0], found[2]), expected)
            found = self.bar(row_of(low, high, "a"), ("y2", N), ("y", M), ("x", S), x=ABC, y=ruler)
            self.assertEqual(None if found is None else (7 - found[1] - found[3], found[3]), expected)


if __name__ == "__main__":
    unittest.main()
