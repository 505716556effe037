"""Points 220 and 221."""

import unittest
from itertools import product

from chartspec.colors import brightness, color_of, palette_colors, text_color

# As they stand in the document.
PALETTES = {
    "plain": "#3a6ea8 #e5832f #c84b55 #5fb0a4 #4c9c3f #e6c23d #9d6bb0 #f58fa3",
    "safe": "#1166aa #dd9911 #119966 #cc5511 #66bbee #bb6699 #eedd33 #222222",
    "dark": "#227755 #bb5511 #6655aa #cc2277 #559922 #cc9911 #885522 #555555",
}
BLACK, WHITE = "#000000", "#ffffff"


def color(red, green, blue):
    return f"#{red:02x}{green:02x}{blue:02x}"


class BrightnessTest(unittest.TestCase):
    def test_black_and_white(self):
        self.assertEqual(brightness(BLACK), 0)
        self.assertEqual(brightness(WHITE), 255000)

    def test_each_part(self):
        self.assertEqual(brightness("#010000"), 299)
        self.assertEqual(brightness("#000100"), 587)
        self.assertEqual(brightness("#000001"), 114)
        self.assertEqual(brightness("#100000"), 16 * 299)
        self.assertEqual(brightness("#3a6ea8"), 101064)

    def test_many_colors(self):
        for red, green, blue in product((0, 9, 10, 15, 16, 128, 171, 205, 239, 255), repeat=3):
            self.assertEqual(brightness(color(red, green, blue)), 299 * red + 587 * green + 114 * blue)


class TextColorTest(unittest.TestCase):
    def test_ordinary_colors(self):
        for found, expected in ((WHITE, BLACK), (BLACK, WHITE), ("#3a6ea8", WHITE), ("#e6c23d", BLACK),
                                ("#222222", WHITE), ("#dddddd", BLACK), ("#7f7f7f", WHITE), ("#808080", BLACK)):
            self.assertEqual(text_color(found), expected)

    def test_the_same_contrast_of_black_and_white(self):
        found = [color(red, green, blue) for red, green in product(range(256), repeat=2)
                 for blue, rest in [divmod(127500 - 299 * red - 587 * green, 114)] if rest == 0 and 0 <= blue < 256]
        self.assertTrue(found)
        for each in found:
            self.assertEqual(brightness(each), 127500)
            self.assertEqual(text_color(each), BLACK)

    def test_hardly_darker_and_hardly_brighter(self):
        levels = {299 * red + 587 * green + 114 * blue: color(red, green, blue)
                  for red, green, blue in product(range(90, 170), repeat=3)}
        self.assertEqual(text_color(levels[127499]), WHITE)
        self.assertEqual(text_color(levels[127501]), BLACK)


class PaletteTest(unittest.TestCase):
    def test_palettes(self):
        for palette, colors in PALETTES.items():
            self.assertEqual(palette_colors(palette), tuple(colors.split()))

    def test_the_color_of_a_cell(self):
        self.assertEqual(color_of("safe", ("a", "b"), "b"), "#dd9911")
        self.assertEqual(color_of("plain", ((1, 1), (1, 2)), (1, 1)), "#3a6ea8")
        self.assertEqual(color_of("dark", (False, True), True), "#bb5511")
        self.assertEqual(color_of("dark", (False, True), False), "#227755")

    def test_the_ninth_category_and_those_after_it(self):
        categories = tuple((number, 1) for number in range(12))
        for palette, colors in PALETTES.items():
            self.assertEqual([color_of(palette, categories, cell) for cell in categories],
                             colors.split() + [None] * 4)
        categories = tuple((number, 1) for number in range(400))
        self.assertIsNone(color_of("plain", categories, (399, 1)))

    def test_cells_without_a_color(self):
        for palette in PALETTES:
            self.assertIsNone(color_of(palette, ("a", "b"), None))
            self.assertIsNone(color_of(palette, ("a", "b"), "c"))
            self.assertIsNone(color_of(palette, ("a", "b"), ""))
            self.assertIsNone(color_of(palette, (), "a"))
            self.assertIsNone(color_of(palette, ((1, 1),), (1, 2)))


if __name__ == "__main__":
    unittest.main()
