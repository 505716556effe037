"""Points 22 and 23."""

import unittest
from itertools import product

from chartspec.texts import glyph_width, inked, text_width

ROWS = {
    1: "! ' . : i |".split(),
    2: "( ) , ; [ ] j l `".split(),
    3: [" "] + '" * - / 1 < > I \\ ^ f r t { }'.split(),
    4: "$ 0 2 3 4 5 6 7 8 9 = ? J _ a b c d e g h k n o p q s u v x y z".split(),
}
ALL = [chr(code) for code in range(ord(" "), ord("~") + 1) if chr(code) != "%"]


def drawn(text, width):
    """The picture of a text as two rows of signs: the first and the last of its pixels."""
    return ["".join("#" if inked(text, x, y) else "." for x in range(-1, width + 1)) for y in (0, 6)]


class WidthTest(unittest.TestCase):
    def test_each_row_of_the_table(self):
        for width, characters in ROWS.items():
            for character in characters:
                self.assertEqual(glyph_width(character), width, character)

    def test_all_other_characters(self):
        listed = "".join("".join(characters) for characters in ROWS.values())
        others = [character for character in ALL if character not in listed]
        self.assertEqual("".join(others), "#&+@ABCDEFGHKLMNOPQRSTUVWXYZ" + "mw~")
        for character in others:
            self.assertEqual(glyph_width(character), 5, character)

    def test_the_empty_text(self):
        self.assertEqual(text_width(""), 0)

    def test_a_text_of_one_character_has_its_width(self):
        for character in ALL:
            self.assertEqual(text_width(character), glyph_width(character), character)

    def test_one_pixel_lies_between_two_characters(self):
        self.assertEqual(text_width("a b"), 13)
        self.assertEqual(text_width("   "), 11)
        self.assertEqual(text_width("||"), 3)
        self.assertEqual(text_width("WWW"), 17)
        self.assertEqual(text_width("Sales"), 23)

    def test_example(self):
        self.assertEqual(text_width("north"), 22)


class InkedTest(unittest.TestCase):
    def test_example(self):
        found = (inked("a b", 3, 0), inked("a b", 4, 0), inked("a b", 6, 0), inked("a b", 12, 6))
        self.assertEqual(found, (True, False, False, True))
        for value in found:
            self.assertIsInstance(value, bool)

    def test_the_columns_of_a_text(self):
        self.assertEqual(drawn("a b", 13), [".####.....####."] * 2)
        self.assertEqual(drawn("i|1", 7), [".#.#.###."] * 2)
        self.assertEqual(drawn("Wl`", 11), [".#####.##.##."] * 2)

    def test_spaces_cover_nothing(self):
        self.assertEqual(drawn(" ", 3), ["....."] * 2)
        self.assertEqual(drawn(" i ", 9), [".....#....."] * 2)

    def test_the_empty_text_covers_nothing(self):
        for x, y in product(range(-2, 9), repeat=2):
            self.assertIs(inked("", x, y), False)

    def test_a_block_is_seven_pixels_high(self):
        for y in range(-3, 10):
            self.assertIs(inked("i", 0, y), 0 <= y <= 6, y)

    def test_places_outside_of_the_text(self):
        for x, y in ((-1, 0), (4, 0), (0, -1), (0, 7), (-100000, 3), (100000, 3), (0, 100000), (0, -100000)):
            self.assertIs(inked("a", x, y), False, (x, y))

    def test_every_character_but_the_space_covers_its_whole_place(self):
        for character in ALL:
            pixels = [(x, y) for x, y in product(range(-2, 9), repeat=2) if inked(character, x, y)]
            many = 0 if character == " " else 7 * glyph_width(character)
            self.assertEqual(len(pixels), many, character)


if __name__ == "__main__":
    unittest.main()
