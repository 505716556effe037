"""Points 40, 42, 44 and 46."""

import unittest
from itertools import product

from samples import pixels_of

from chartspec.shapes import around, covers
from chartspec.texts import inked


def covered(shape, points, text="", *, least=-12, most=16):
    """The pixels that a shape covers, in ascending order."""
    places = product(range(least, most), repeat=2)
    return [(x, y) for x, y in places if covers(shape, points, text, x, y)]


class AroundTest(unittest.TestCase):
    def test_a_rectangle(self):
        self.assertEqual(around("rectangle", (3, -4, 5, 6), ""), (3, -4, 5, 6))
        self.assertEqual(around("rectangle", (3, -4, 0, 6), ""), (3, -4, 0, 6))

    def test_a_line_in_each_direction(self):
        for points in ((1, 2, 5, 4), (5, 4, 1, 2), (1, 4, 5, 2), (5, 2, 1, 4)):
            self.assertEqual(around("line", points, ""), (1, 2, 5, 3), points)
        self.assertEqual(around("line", (3, 7, 3, 7), ""), (3, 7, 1, 1))
        self.assertEqual(around("line", (-2, 7, 3, 7), ""), (-2, 7, 6, 1))

    def test_a_polyline(self):
        self.assertEqual(around("polyline", (3, 1, 0, 8, 5, 2, 4, -1), ""), (0, -1, 6, 10))
        self.assertEqual(around("polyline", (3, 1), ""), (3, 1, 1, 1))

    def test_a_circle(self):
        self.assertEqual(around("circle", (10, 20, 3), ""), (7, 17, 7, 7))
        self.assertEqual(around("circle", (10, 20, 0), ""), (10, 20, 1, 1))

    def test_texts(self):
        self.assertEqual(around("text start", (25, 66), "north"), (25, 66, 22, 7))
        self.assertEqual(around("text end", (25, 66), "north"), (3, 66, 22, 7))
        self.assertEqual(around("text middle", (25, 66), "north"), (14, 66, 22, 7))

    def test_a_text_with_an_odd_width(self):
        self.assertEqual(around("text middle", (0, 0), "a b"), (-6, 0, 13, 7))
        self.assertEqual(around("text middle", (0, 0), "i"), (0, 0, 1, 7))

    def test_the_empty_text(self):
        for shape in ("text start", "text middle", "text end"):
            self.assertEqual(around(shape, (4, 5), ""), (4, 5, 0, 7))


class RectangleTest(unittest.TestCase):
    def test_its_pixels(self):
        for points in ((2, 3, 4, 5), (-3, -2, 1, 1), (2, 3, 0, 5), (2, 3, 4, 0)):
            self.assertEqual(covered("rectangle", points), sorted(pixels_of(points)), points)

    def test_the_result_is_true_or_false(self):
        self.assertIs(covers("rectangle", (2, 3, 4, 5), "", 2, 3), True)
        self.assertIs(covers("rectangle", (2, 3, 4, 5), "", 6, 3), False)


class LineTest(unittest.TestCase):
    def test_example(self):
        self.assertIs(covers("line", (0, 0, 4, 2), "", 1, 0), True)
        self.assertIs(covers("line", (0, 0, 4, 2), "", 2, 0), False)

    def test_the_pixels_of_the_example(self):
        expected = [(0, 0), (1, 0), (1, 1), (2, 1), (3, 1), (3, 2), (4, 2)]
        self.assertEqual(covered("line", (0, 0, 4, 2)), expected)

    def test_a_line_from_either_of_its_ends(self):
        for points in product(range(-1, 4), (0, 3), (-2, 1), range(-1, 4)):
            x1, y1, x2, y2 = points
            self.assertEqual(covered("line", points), covered("line", (x2, y2, x1, y1)), points)

    def test_a_steep_line(self):
        expected = [(0, 0), (0, 1), (1, 1), (1, 2), (1, 3), (2, 3), (2, 4)]
        self.assertEqual(covered("line", (0, 0, 2, 4)), expected)

    def test_falling_and_rising_lines(self):
        self.assertEqual(covered("line", (0, 2, 4, 0)),
                         [(0, 2), (1, 1), (1, 2), (2, 1), (3, 0), (3, 1), (4, 0)])
        self.assertEqual(covered("line", (0, 0, 3, 1)), [(0, 0), (1, 0), (2, 1), (3, 1)])

    def test_straight_lines(self):
        self.assertEqual(covered("line", (2, 5, 6, 5)), [(x, 5) for x in range(2, 7)])
        self.assertEqual(covered("line", (2, 8, 2, 5)), [(2, y) for y in range(5, 9)])
        self.assertEqual(covered("line", (0, 0, 4, -4)), [(x, -x) for x in range(5)])

    def test_a_line_of_one_point(self):
        self.assertEqual(covered("line", (3, -4, 3, -4)), [(3, -4)])

    def test_nothing_beyond_the_ends(self):
        for x, y in ((-1, 0), (5, 2), (5, 3), (-1, -1), (6, 3), (-2, -1)):
            self.assertIs(covers("line", (0, 0, 4, 2), "", x, y), False, (x, y))

    def test_a_long_line(self):
        points = (-20000, -20000, 20000, 19999)
        self.assertIs(covers("line", points, "", 0, 0), True)
        self.assertIs(covers("line", points, "", 0, -1), True)
        self.assertIs(covers("line", points, "", 0, 1), False)
        self.assertIs(covers("line", points, "", 20000, 19999), True)
        self.assertIs(covers("line", points, "", 20000, 20000), False)


class PolylineTest(unittest.TestCase):
    def test_a_single_point(self):
        self.assertEqual(covered("polyline", (3, 4)), [(3, 4)])

    def test_two_points_are_a_line(self):
        self.assertEqual(covered("polyline", (0, 0, 4, 2)), covered("line", (0, 0, 4, 2)))

    def test_all_lines_between_consecutive_points(self):
        points = (0, 0, 4, 2, 4, 8, -3, 5)
        expected = covered("line", (0, 0, 4, 2)) + covered("line", (4, 2, 4, 8)) + covered("line", (4, 8, -3, 5))
        self.assertEqual(covered("polyline", points), sorted(set(expected)))

    def test_it_is_not_closed(self):
        self.assertIs(covers("polyline", (0, 0, 6, 0, 6, 6), "", 3, 3), False)

    def test_a_point_twice(self):
        self.assertEqual(covered("polyline", (3, 4, 3, 4)), [(3, 4)])
        self.assertEqual(covered("polyline", (3, 4, 3, 4, 5, 4)), [(3, 4), (4, 4), (5, 4)])


class CircleTest(unittest.TestCase):
    def test_a_circle_with_the_radius_0_covers_its_center(self):
        self.assertEqual(covered("circle", (2, 3, 0)), [(2, 3)])

    def test_the_counts_of_the_example(self):
        self.assertEqual(len(covered("circle", (2, 3, 1))), 9)
        self.assertEqual(len(covered("circle", (2, 3, 2))), 21)

    def test_the_pixels_of_small_circles(self):
        for radius in range(6):
            square = product(range(-12, 16), repeat=2)
            expected = [(x, y) for x, y in square if (x - 2) ** 2 + (y + 1) ** 2 <= radius * radius + radius]
            self.assertEqual(covered("circle", (2, -1, radius)), expected)

    def test_the_corners_of_a_circle(self):
        self.assertIs(covers("circle", (0, 0, 2), "", 2, 1), True)
        self.assertIs(covers("circle", (0, 0, 2), "", 2, 2), False)
        self.assertIs(covers("circle", (0, 0, 2), "", 0, 3), False)
        self.assertIs(covers("circle", (0, 0, 3), "", 2, 2), True)


class TextTest(unittest.TestCase):
    def test_the_characters_in_the_rectangle_around_the_text(self):
        for shape in ("text start", "text middle", "text end"):
            left, top, _, _ = around(shape, (1, 2), "i a")
            expected = [(x, y) for x, y in product(range(-12, 16), repeat=2) if inked("i a", x - left, y - top)]
            self.assertEqual(len(expected), 35)
            self.assertEqual(covered(shape, (1, 2), "i a"), expected)

    def test_where_the_text_lies(self):
        self.assertEqual(covered("text start", (3, 2), "i"), [(3, y) for y in range(2, 9)])
        self.assertEqual(covered("text middle", (3, 2), "i"), [(3, y) for y in range(2, 9)])
        self.assertEqual(covered("text end", (3, 2), "i"), [(2, y) for y in range(2, 9)])
        self.assertEqual(covered("text middle", (3, 2), "l"), [(x, y) for x in (2, 3) for y in range(2, 9)])

    def test_the_space_and_the_empty_text_cover_nothing(self):
        for shape, text in product(("text start", "text middle", "text end"), ("", " ")):
            self.assertEqual(covered(shape, (1, 2), text), [])


class AllShapesTest(unittest.TestCase):
    def test_what_is_covered_lies_in_the_rectangle_around(self):
        shapes = (("rectangle", (1, 2, 3, 4), ""), ("line", (5, 1, -2, 4), ""), ("polyline", (1, 1, 4, 6, -5, 3), ""),
                  ("circle", (1, 2, 4), ""), ("text start", (1, 2), "i"), ("text middle", (1, 2), "ab"),
                  ("text end", (1, 2), "b "))
        for shape, points, text in shapes:
            box = pixels_of(around(shape, points, text))
            self.assertTrue(covered(shape, points, text), shape)
            self.assertLessEqual(set(covered(shape, points, text)), box, shape)


if __name__ == "__main__":
    unittest.main()
