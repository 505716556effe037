"""Point 204: extents and lines."""

import unittest
from random import Random

from chartspec.lines import extent, line_count


def fewest_lines(extents, gap):
    """The least n for which the labels of each line keep their distance, found line by line."""
    for count in range(1, len(extents) + 2):
        lines = [extents[start::count] for start in range(count)]
        if all(later[0] - earlier[1] >= gap for line in lines for earlier, later in zip(line, line[1:])):
            return count
    raise AssertionError


class ExtentTest(unittest.TestCase):
    def test_labels_of_odd_and_even_width_on_the_x_axis(self):
        self.assertEqual(extent(0, "0"), (-2, 2))
        self.assertEqual(extent(7, "1"), (6, 9))
        self.assertEqual(extent(20, "4"), (18, 22))
        self.assertEqual(extent(50, "north"), (39, 61))
        self.assertEqual(extent(50, "100"), (44, 57))
        self.assertEqual(extent(5, "i"), (5, 6))

    def test_a_label_without_characters(self):
        self.assertEqual(extent(5, ""), (5, 5))

    def test_labels_on_the_y_axis(self):
        for label in ("", "0", "1", "north", "1,000,000"):
            self.assertEqual(extent(10, label, vertical=True), (7, 14))
        self.assertEqual(extent(0, "0", vertical=True), (-3, 4))

    def test_the_x_axis_is_meant_unless_told(self):
        self.assertEqual(extent(10, "north", vertical=False), extent(10, "north"))


class LineCountTest(unittest.TestCase):
    def test_no_labels_and_one(self):
        for gap in (3, 6):
            self.assertEqual(line_count((), gap), 1)
            self.assertEqual(line_count(((0, 50),), gap), 1)

    def test_labels_that_just_keep_their_distance(self):
        self.assertEqual(line_count(((-2, 2), (8, 12), (18, 22)), 6), 1)
        self.assertEqual(line_count(((-3, 4), (7, 14), (17, 24)), 3), 1)

    def test_labels_that_miss_it_by_one_pixel(self):
        self.assertEqual(line_count(((-2, 2), (8, 12), (17, 21)), 6), 2)
        self.assertEqual(line_count(((-2, 3), (8, 12), (18, 22)), 6), 2)
        self.assertEqual(line_count(((-3, 4), (6, 13)), 3), 2)

    def test_several_lines(self):
        self.assertEqual(line_count(((0, 10), (5, 15), (16, 26), (21, 31)), 6), 2)
        self.assertEqual(line_count(((0, 10), (5, 15), (15, 26), (21, 31)), 6), 3)
        self.assertEqual(line_count(((0, 10), (2, 12), (4, 14), (6, 16)), 6), 4)
        self.assertEqual(line_count(((0, 10), (0, 10), (0, 10)), 6), 3)

    def test_only_labels_of_the_same_line_matter(self):
        # The label 0 reaches far, but what is two labels behind it keeps the distance.
        self.assertEqual(line_count(((0, 14), (5, 15), (20, 30), (21, 31), (36, 40)), 6), 2)

    def test_every_line_count_is_the_least(self):
        random = Random(204)
        for _ in range(500):
            first, extents = 0, []
            for _ in range(random.randrange(9)):
                first += random.randrange(12)
                extents.append((first, first + random.randrange(15)))
            for gap in (3, 6):
                self.assertEqual(line_count(tuple(extents), gap), fewest_lines(extents, gap))


if __name__ == "__main__":
    unittest.main()
