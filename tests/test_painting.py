"""Points 81 to 84."""

import copy
import unittest
from itertools import product
from random import Random

from samples import AFTER, BEFORE, ONE, PAGE, TWO, block, painting, pixels_of, some_change, some_primitive, some_scene

from chartspec.damages import diff
from chartspec.errors import ChartError, PictureTooLarge
from chartspec.painting import needed, painted, picture, repainted
from chartspec.rectangles import contains
from chartspec.scenes import reach

RED, BLUE, WHITE = "#ff0000", "#0000ff", "#ffffff"


def colors_of(scene, rectangle):
    """The picture of a rectangle, found pixel by pixel."""
    left, top, width, height = rectangle
    colors = painting(scene)
    return tuple(tuple(colors[x, y] for x in range(left, left + width)) for y in range(top, top + height))


class PaintedTest(unittest.TestCase):
    def test_the_example(self):
        self.assertEqual(painted(BEFORE, (3, 3, 3, 2)),
                         ((WHITE, "#3a6ea8", "#3a6ea8"), (WHITE, "#3a6ea8", "#3a6ea8")))

    def test_rows_from_top_to_bottom_and_colors_from_left_to_right(self):
        scene = (3, 2, tuple(block(0, f"{x}{y}", (x, y, 1, 1), fill=f"#{x}{y}0000") for x in range(3) for y in (0, 1)))
        self.assertEqual(painted(scene, (0, 0, 3, 2)),
                         (("#000000", "#100000", "#200000"), ("#010000", "#110000", "#210000")))
        self.assertEqual(painted(scene, (1, 1, 2, 1)), (("#110000", "#210000"),))

    def test_rectangles_without_pixels(self):
        for left, top in ((0, 0), (4, 3), (10, 6)):
            self.assertEqual(painted(BEFORE, (left, top, 0, 0)), ())
        self.assertEqual(painted(BEFORE, (1, 1, 0, 4)), ((), (), (), ()))
        self.assertEqual(painted(BEFORE, (1, 1, 4, 0)), ())
        self.assertEqual(painted((0, 3, (PAGE,)), (0, 0, 0, 3)), ((), (), ()))

    def test_a_scene_without_primitives(self):
        self.assertEqual(painted((3, 2, ()), (1, 0, 2, 2)), ((WHITE, WHITE), (WHITE, WHITE)))

    def test_later_primitives_hide_earlier_ones(self):
        first, second = block(0, "1", (0, 0, 2, 1), fill=RED), block(0, "2", (1, 0, 2, 1), fill=BLUE)
        self.assertEqual(picture((3, 1, (first, second))), ((RED, BLUE, BLUE),))
        self.assertEqual(picture((3, 1, (second, first))), ((RED, RED, BLUE),))

    def test_a_missing_color_hides_nothing(self):
        first, second = block(0, "1", (0, 0, 2, 1), fill=RED), block(0, "2", (0, 0, 3, 1), fill=None)
        stroked = second[:7] + (BLUE, None)
        line = (0, "rule", "3", "line", (0, 0, 2, 0), "", BLUE, None, None)
        self.assertEqual(picture((3, 1, (first, second, stroked, line))), ((RED, RED, WHITE),))

    def test_a_clip(self):
        item = block(0, "1", (-5, -5, 20, 20), fill=RED, clip=(1, 1, 2, 1))
        self.assertEqual(picture((4, 3, (item,))), ((WHITE,) * 4, (WHITE, RED, RED, WHITE), (WHITE,) * 4))

    def test_lines_in_parts(self):
        points = (0, 0, 3, 3, 3, 0, 0, 0)
        item = (0, "mark 0", "1", "polyline", points, "", None, BLUE, None)
        expected = ((BLUE,) * 4, (WHITE, BLUE, WHITE, BLUE), (WHITE, WHITE, BLUE, BLUE), (WHITE, WHITE, WHITE, BLUE))
        self.assertEqual(picture((4, 4, (item,))), expected)
        for length, expected in ((2, (BLUE, WHITE)), (4, (BLUE, WHITE)), (6, (BLUE, WHITE))):
            item = (0, "mark 0", "1", "polyline", (0, 0, 0, 0, 0, 0)[:length], "", RED, BLUE, None)
            self.assertEqual(picture((2, 1, (item,))), (expected,))

    def test_a_scene_that_is_not_keyed(self):
        first, second = block(0, "", (0, 0, 2, 1), fill=RED), block(0, "", (1, 0, 2, 1), fill=BLUE)
        self.assertEqual(picture((3, 1, (first, second))), ((RED, BLUE, BLUE),))

    def test_many_scenes_and_rectangles(self):
        random = Random(81)
        for _ in range(200):
            scene = some_scene(random, (9, 7))
            left, top = random.randrange(10), random.randrange(8)
            box = (left, top, random.randrange(10 - left), random.randrange(8 - top))
            self.assertEqual(painted(scene, box), colors_of(scene, box), (scene, box))

    def test_long_polylines(self):
        random = Random(82)
        for _ in range(20):
            points = tuple(random.randrange(-5, 20) for _ in range(30))
            clip = random.choice((None, (3, 4, 8, 9)))
            scene = (15, 15, (PAGE, (0, "mark 0", "1", "polyline", points, "", RED, BLUE, clip)))
            self.assertEqual(picture(scene), colors_of(scene, (0, 0, 15, 15)))


class PictureTest(unittest.TestCase):
    def test_the_whole_page(self):
        self.assertEqual(picture(BEFORE), painted(BEFORE, (0, 0, 10, 6)))
        self.assertEqual(picture(AFTER), colors_of(AFTER, (0, 0, 10, 6)))

    def test_pages_without_pixels(self):
        self.assertEqual(picture((0, 0, (PAGE,))), ())
        self.assertEqual(picture((5, 0, (PAGE,))), ())
        self.assertEqual(picture((0, 3, (PAGE,))), ((), (), ()))
        self.assertEqual(picture((0, 20000, ())), ((),) * 20000)
        self.assertEqual(picture((20000, 0, ())), ())

    def test_20000_pixels(self):
        for width, height in ((200, 100), (20000, 1), (1, 20000), (160, 125)):
            item = block(0, "1", (width - 1, height - 1, 5, 5), fill=RED)
            found = picture((width, height, (item,)))
            self.assertEqual([len(row) for row in found], [width] * height)
            self.assertEqual(found[-1][-1], RED)
            self.assertEqual(sum(row.count(WHITE) for row in found), 19999)

    def test_more_than_20000_pixels(self):
        for width, height in ((20001, 1), (1, 20001), (201, 100), (20000, 20000)):
            with self.assertRaises(PictureTooLarge) as caught:
                picture((width, height, (PAGE,)))
            self.assertEqual(caught.exception.pixels, width * height)
            self.assertIsInstance(caught.exception, ChartError)

    def test_a_part_of_a_page_with_more_pixels(self):
        item = block(0, "1", (19999, 19999, 1, 1), fill=RED)
        self.assertEqual(painted((20000, 20000, (item,)), (19998, 19999, 2, 1)), ((WHITE, RED),))
        found = painted((20000, 20000, (item,)), (0, 19999, 20000, 1))
        self.assertEqual(found, ((WHITE,) * 19999 + (RED,),))


class NeededTest(unittest.TestCase):
    def test_the_reach_has_a_pixel_in_common(self):
        self.assertEqual(needed(BEFORE, (1, 1, 1, 1)), (PAGE, ONE))
        self.assertEqual(needed(BEFORE, (2, 4, 3, 1)), (PAGE, ONE, TWO))
        self.assertEqual(needed(BEFORE, (3, 0, 1, 6)), (PAGE,))
        self.assertEqual(needed(BEFORE, (10, 0, 5, 5)), ())

    def test_in_the_order_of_the_scene(self):
        self.assertEqual(needed((10, 6, (TWO, PAGE, ONE)), (0, 0, 10, 6)), (TWO, PAGE, ONE))

    def test_a_primitive_need_not_paint(self):
        circle = (0, "mark 0", "1", "circle", (5, 5, 4), "", None, None, None)
        self.assertEqual(needed((10, 10, (circle,)), (1, 1, 1, 1)), (circle,))
        space = (0, "mark 0", "1", "text start", (0, 0), " ", RED, None, None)
        self.assertEqual(needed((10, 10, (space,)), (0, 0, 1, 1)), (space,))
        polyline = (0, "mark 0", "1", "polyline", (0, 0, 9, 0, 9, 9), "", None, RED, None)
        self.assertEqual(needed((10, 10, (polyline,)), (0, 9, 1, 1)), (polyline,))

    def test_a_clip_and_primitives_without_a_reach(self):
        clipped = block(0, "1", (0, 0, 9, 9), clip=(2, 2, 3, 3))
        self.assertEqual(needed((10, 10, (clipped,)), (4, 4, 1, 1)), (clipped,))
        self.assertEqual(needed((10, 10, (clipped,)), (5, 4, 1, 1)), ())
        nothing = (block(0, "1", (0, 0, 0, 9)), block(0, "2", (0, 0, 9, 9), clip=(2, 2, 0, 0)))
        self.assertEqual(needed((10, 10, nothing), (0, 0, 10, 10)), ())

    def test_the_page_plays_no_part(self):
        outside = block(0, "1", (-5, 20, 3, 3))
        self.assertEqual(needed((10, 10, (outside,)), (-5, 20, 1, 1)), (outside,))

    def test_a_rectangle_without_pixels_needs_nothing(self):
        for box in ((1, 1, 0, 3), (1, 1, 3, 0), (1, 1, 0, 0)):
            self.assertEqual(needed(BEFORE, box), ())

    def test_each_as_often_as_it_stands_in_the_scene(self):
        self.assertEqual(needed((10, 6, (ONE, TWO, ONE)), (1, 1, 1, 1)), (ONE, ONE))

    def test_many_primitives(self):
        random = Random(83)
        for _ in range(300):
            item = some_primitive(random, 0, "mark 0", "1")
            box = (random.randrange(-3, 12), random.randrange(-3, 9), random.randrange(4), random.randrange(4))
            pixels = set() if reach(item) is None else pixels_of(reach(item))
            self.assertEqual(needed((9, 7, (item,)), box), (item,) if pixels & pixels_of(box) else (), (item, box))


class RepaintedTest(unittest.TestCase):
    def check(self, colors, scene, rectangles):
        """Just the pixels of the rectangles have the colors of the scene, and the arguments stay as they are."""
        kept = copy.deepcopy((colors, scene, rectangles))
        fresh = painting(scene)
        expected = tuple(
            tuple(fresh[x, y] if any(contains(box, x, y) for box in rectangles) else color
                  for x, color in enumerate(row)) for y, row in enumerate(colors))
        self.assertEqual(repainted(colors, scene, rectangles), expected, (scene, rectangles))
        self.assertEqual((colors, scene, rectangles), kept)

    def test_one_rectangle(self):
        scene = (3, 2, (block(0, "1", (0, 0, 3, 2), fill=RED),))
        blue = ((BLUE,) * 3,) * 2
        self.assertEqual(repainted(blue, scene, ((1, 0, 1, 2),)), ((BLUE, RED, BLUE),) * 2)
        self.assertEqual(repainted(blue, scene, ((0, 1, 2, 1),)), ((BLUE,) * 3, (RED, RED, BLUE)))

    def test_no_rectangles(self):
        self.assertEqual(repainted(picture(BEFORE), AFTER, ()), picture(BEFORE))

    def test_rectangles_that_overlap(self):
        self.check(picture(AFTER), BEFORE, ((0, 0, 5, 4), (3, 2, 5, 4), (0, 0, 5, 4)))

    def test_rectangles_partly_and_wholly_outside_the_page(self):
        self.check(picture(AFTER), BEFORE, ((-5, -5, 7, 7), (8, 4, 50, 50), (-9, 3, 100, 1)))
        self.check(picture(AFTER), BEFORE, ((-5, 0, 5, 6), (10, 0, 5, 6), (0, -4, 10, 4), (0, 6, 10, 4)))
        self.check(picture(AFTER), BEFORE, ((-100000, -100000, 100000, 100000),))
        self.check(picture(AFTER), BEFORE, ((-50000, -50000, 100000, 100000),))

    def test_rectangles_without_pixels(self):
        self.check(picture(AFTER), BEFORE, ((2, 2, 0, 3), (2, 2, 3, 0), (2, 2, 0, 0)))

    def test_pixels_that_nothing_paints(self):
        self.check(((RED, BLUE), (BLUE, RED)), (2, 2, ()), ((0, 0, 1, 2),))

    def test_pictures_without_pixels(self):
        self.assertEqual(repainted(((), ()), (0, 2, (PAGE,)), ((0, 0, 5, 5),)), ((), ()))

    def test_many_scenes_and_rectangles(self):
        random = Random(84)
        for _ in range(100):
            first, second = some_scene(random, (9, 7)), some_scene(random, (9, 7))
            boxes = tuple((random.randrange(-4, 10), random.randrange(-4, 8), random.randrange(7), random.randrange(7))
                          for _ in range(random.randrange(4)))
            self.check(picture(first), second, boxes)

    def test_the_damage_of_a_difference_is_enough(self):
        self.assertEqual(repainted(picture(BEFORE), AFTER, diff(BEFORE, AFTER)[4]), picture(AFTER))
        random = Random(85)
        for _ in range(400):
            first = some_scene(random, (9, 7))
            second = (9, 7) + some_change(random, first)[2:]
            self.assertEqual(repainted(picture(first), second, diff(first, second)[4]), picture(second))

    def test_the_damage_of_primitives_that_change_places(self):
        items = tuple(block(k, "1", (2 * k, 0, 5, 3), fill=f"#00000{k}") for k in range(4))
        first = (9, 7, items)
        for order in product(range(4), repeat=4):
            if len(set(order)) == 4:
                second = (9, 7, tuple(items[k] for k in order))
                self.assertEqual(repainted(picture(first), second, diff(first, second)[4]), picture(second))


if __name__ == "__main__":
    unittest.main()
