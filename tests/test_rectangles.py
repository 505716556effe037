"""Points 20 and 21."""

import unittest
from itertools import permutations, product

from samples import pixels_of, small_rectangles

from chartspec.rectangles import common, contains, hull, inside, overlap

SMALL = small_rectangles((0, 1, 2, 3), (-1, 0, 2))


class ContainsTest(unittest.TestCase):
    def test_the_left_and_upper_edge_are_contained_the_others_not(self):
        box = (3, -2, 4, 5)
        for x, y in ((3, -2), (6, -2), (3, 2), (6, 2), (5, 0)):
            self.assertIs(contains(box, x, y), True, (x, y))
        for x, y in ((2, 0), (7, 0), (5, -3), (5, 3), (7, 3), (2, -3), (100, 0), (5, -100)):
            self.assertIs(contains(box, x, y), False, (x, y))

    def test_empty_rectangles_contain_no_pixel(self):
        for box in ((1, 1, 0, 3), (1, 1, 3, 0), (1, 1, 0, 0)):
            for x, y in product(range(6), repeat=2):
                self.assertIs(contains(box, x, y), False, (box, x, y))

    def test_large_rectangles(self):
        box = (-100000, -100000, 100000, 100000)
        self.assertIs(contains(box, -1, -1), True)
        self.assertIs(contains(box, 0, -1), False)
        self.assertIs(contains(box, -1, 0), False)

    def test_the_pixels_of_small_rectangles(self):
        for box in SMALL:
            found = {(x, y) for x, y in product(range(-3, 8), repeat=2) if contains(box, x, y)}
            self.assertEqual(found, pixels_of(box), box)


class OverlapTest(unittest.TestCase):
    def test_ordinary_rectangles(self):
        self.assertIs(overlap((0, 0, 10, 7), (8, 5, 10, 7)), True)
        self.assertIs(overlap((0, 0, 10, 7), (10, 5, 10, 7)), False)
        self.assertIs(overlap((0, 0, 10, 7), (8, 7, 10, 7)), False)
        self.assertIs(overlap((0, 0, 10, 7), (9, 6, 1, 1)), True)

    def test_an_empty_rectangle_overlaps_nothing(self):
        for box in ((2, 2, 0, 3), (2, 2, 3, 0), (2, 2, 0, 0)):
            self.assertIs(overlap(box, (0, 0, 10, 10)), False)
            self.assertIs(overlap((0, 0, 10, 10), box), False)
            self.assertIs(overlap(box, box), False)

    def test_all_small_rectangles(self):
        for first, second in product(SMALL, repeat=2):
            expected = bool(pixels_of(first) & pixels_of(second))
            self.assertIs(overlap(first, second), expected, (first, second))


class InsideTest(unittest.TestCase):
    def test_each_edge_counts(self):
        outer = (1, 2, 10, 8)
        self.assertIs(inside(outer, outer), True)
        self.assertIs(inside((2, 3, 5, 5), outer), True)
        self.assertIs(inside((0, 2, 10, 8), outer), False)
        self.assertIs(inside((1, 1, 10, 8), outer), False)
        self.assertIs(inside((1, 2, 11, 8), outer), False)
        self.assertIs(inside((1, 2, 10, 9), outer), False)
        self.assertIs(inside(outer, (2, 3, 5, 5)), False)

    def test_empty_rectangles_lie_inside_by_their_edges(self):
        outer = (1, 2, 10, 8)
        for box in ((1, 2, 0, 0), (11, 10, 0, 0), (5, 5, 0, 3), (5, 5, 3, 0), (11, 2, 0, 8)):
            self.assertIs(inside(box, outer), True, box)
        for box in ((0, 5, 0, 0), (12, 5, 0, 0), (5, 1, 0, 0), (5, 11, 0, 0), (5, 5, 0, 6), (5, 5, 7, 0)):
            self.assertIs(inside(box, outer), False, box)

    def test_an_empty_rectangle_around_another_one(self):
        self.assertIs(inside((3, 3, 0, 0), (3, 3, 0, 0)), True)
        self.assertIs(inside((3, 3, 0, 1), (3, 3, 0, 2)), True)
        self.assertIs(inside((3, 3, 1, 1), (3, 3, 0, 2)), False)

    def test_all_small_rectangles_with_pixels(self):
        full = [box for box in SMALL if pixels_of(box)]
        for first, second in product(full, repeat=2):
            self.assertIs(inside(first, second), pixels_of(first) <= pixels_of(second), (first, second))


class CommonTest(unittest.TestCase):
    def test_example(self):
        self.assertEqual(common((0, 0, 10, 7), (8, 5, 10, 7)), (8, 5, 2, 2))

    def test_a_rectangle_and_itself(self):
        self.assertEqual(common((1, 2, 3, 4), (1, 2, 3, 4)), (1, 2, 3, 4))

    def test_no_common_pixel(self):
        for second in ((10, 0, 5, 7), (0, 7, 10, 7), (20, 20, 1, 1), (3, 3, 0, 2), (3, 3, 2, 0), (-5, 0, 5, 7)):
            self.assertIsNone(common((0, 0, 10, 7), second), second)
            self.assertIsNone(common(second, (0, 0, 10, 7)), second)
        self.assertIsNone(common((3, 3, 0, 0), (3, 3, 0, 0)))

    def test_all_small_rectangles(self):
        for first, second in product(SMALL, repeat=2):
            part = common(first, second)
            expected = pixels_of(first) & pixels_of(second)
            if expected:
                self.assertEqual(pixels_of(part), expected, (first, second))
            else:
                self.assertIsNone(part, (first, second))


class HullTest(unittest.TestCase):
    def test_example_with_an_empty_rectangle(self):
        self.assertEqual(hull(((0, 0, 10, 7), (20, 30, 0, 0))), (0, 0, 20, 30))

    def test_no_rectangles(self):
        self.assertIsNone(hull(()))

    def test_a_single_rectangle(self):
        self.assertEqual(hull(((4, -5, 6, 7),)), (4, -5, 6, 7))
        self.assertEqual(hull(((4, -5, 0, 0),)), (4, -5, 0, 0))

    def test_each_edge_can_come_from_another_rectangle(self):
        boxes = ((0, 3, 2, 2), (3, 0, 2, 2), (8, 4, 2, 1), (4, 5, 1, 6))
        for order in permutations(boxes):
            self.assertEqual(hull(order), (0, 0, 10, 11))

    def test_a_large_rectangle_around_the_others(self):
        self.assertEqual(hull(((2, 2, 1, 1), (0, 0, 9, 9), (5, 5, 2, 2))), (0, 0, 9, 9))

    def test_only_empty_rectangles(self):
        self.assertEqual(hull(((-2, 5, 0, 3), (4, 1, 2, 0))), (-2, 1, 8, 7))

    def test_arguments_are_left_alone(self):
        boxes = ((0, 3, 2, 2), (3, 0, 2, 2))
        hull(boxes)
        self.assertEqual(boxes, ((0, 3, 2, 2), (3, 0, 2, 2)))


if __name__ == "__main__":
    unittest.main()
