"""Point 267, with the examples of point 269 and of the interface."""

import copy
import unittest

from samples import SALES, SALES_SPEC, whole

from chartspec.drawing import layer_tables
from chartspec.guides import frame_of, guides_of
from chartspec.layout import outline_of, page_of

AXIS = ("linear", whole(0, 1), 50, False, False)
LOW = ("linear", whole(0, 1), 30, False, False)
FRAME = (0, AXIS, LOW, "plain", ())


def guide(shape, points, text=""):
    return (0, "guide", "", shape, points, text, "#000000", "#000000", None)


class OutlineTest(unittest.TestCase):
    def test_the_area_alone(self):
        self.assertEqual(outline_of(FRAME, ()), (0, 0, 51, 31))

    def test_guides_inside_the_area(self):
        self.assertEqual(outline_of(FRAME, (guide("line", (0, 30, 50, 30)), guide("rectangle", (5, 5, 10, 7)))),
                         (0, 0, 51, 31))

    def test_guides_on_each_side(self):
        self.assertEqual(outline_of(FRAME, (guide("text end", (-6, 10), "abc"),)), (-20, 0, 71, 31))
        self.assertEqual(outline_of(FRAME, (guide("text start", (0, -24), "abc"),)), (0, -24, 51, 55))
        self.assertEqual(outline_of(FRAME, (guide("text middle", (50, 36), "abc"),)), (0, 0, 57, 43))
        self.assertEqual(outline_of(FRAME, (guide("line", (-4, 30, 0, 30)), guide("line", (50, 30, 50, 34)))),
                         (-4, 0, 55, 35))

    def test_an_empty_text_counts(self):
        self.assertEqual(outline_of(FRAME, (guide("text start", (60, 0), ""),)), (0, 0, 60, 31))

    def test_the_example_of_point_269(self):
        tables = layer_tables(SALES_SPEC, (SALES,), 0)
        before, after = guides_of(SALES_SPEC, 0, tables)
        self.assertEqual(outline_of(frame_of(SALES_SPEC, 0, tables)[0], before + after), (-10, -12, 111, 85))


class PageTest(unittest.TestCase):
    def test_the_examples(self):
        self.assertEqual(page_of("Sales", (((-10, -12, 111, 85),),)), ((131, 123), (((20, 40),),)))
        self.assertEqual(page_of("", (((0, 0, 50, 40), (-5, -10, 60, 90)), ((0, 0, 30, 30),))),
                         ((150, 160), (((10, 10), (85, 20)), ((10, 120),))))

    def test_a_title_moves_everything_down(self):
        rows = (((0, 0, 50, 40),), ((-3, -4, 30, 30),))
        self.assertEqual(page_of("", rows), ((70, 110), (((10, 10),), ((13, 74),))))
        self.assertEqual(page_of("t", rows), ((70, 128), (((10, 28),), ((13, 92),))))

    def test_a_title_that_is_wider_than_the_plots(self):
        # The title is 44 pixels wide.
        self.assertEqual(page_of("aaaaaaaaa", (((0, 0, 43, 10),),))[0], (64, 48))
        self.assertEqual(page_of("aaaaaaaaa", (((0, 0, 45, 10),),))[0], (65, 48))

    def test_the_widest_row(self):
        small, wide = (0, 0, 10, 10), (0, 0, 31, 10)
        self.assertEqual(page_of("", ((small, small), (wide,)))[0], (60, 60))
        self.assertEqual(page_of("", ((wide,), (small, small)))[0], (60, 60))
        self.assertEqual(page_of("", ((small,), (wide,), (small,)))[0], (51, 90))

    def test_the_highest_plot_of_a_row(self):
        rows = (((0, 0, 10, 10), (0, 5, 10, 30), (0, 0, 10, 20)), ((0, 0, 10, 10),))
        self.assertEqual(page_of("", rows), ((90, 80), (((10, 10), (40, 5), (70, 10)), ((10, 60),))))

    def test_arguments_stay_as_they_are(self):
        rows = (((0, 0, 50, 40), (-5, -10, 60, 90)), ((0, 0, 30, 30),))
        before = copy.deepcopy(rows)
        page_of("Title", rows)
        self.assertEqual(rows, before)


if __name__ == "__main__":
    unittest.main()
