"""Points 40, 41, 43 and 45."""

import unittest
from itertools import product
from random import Random

from samples import AFTER, BEFORE, ONE, PAGE, TWO, block, pixels_of, some_primitive

from chartspec.scenes import identity, is_keyed, paint_of, reach, visible_part, without_keys

RED, BLUE = "#ff0000", "#0000ff"
FORMS = {
    "rectangle": ((1, 1, 4, 3), ""),
    "line": ((1, 1, 5, 3), ""),
    "polyline": ((1, 1, 5, 3, 2, 6), ""),
    "circle": ((3, 3, 2), ""),
    "text start": ((1, 1), "ab"),
    "text middle": ((5, 1), "ab"),
    "text end": ((9, 1), "ab"),
}


def primitive(shape, *, fill=RED, stroke=BLUE, clip=None):
    points, text = FORMS[shape]
    return (0, "mark 0", "k", shape, points, text, fill, stroke, clip)


class IdentityTest(unittest.TestCase):
    def test_it_is_the_plot_the_role_and_the_key(self):
        self.assertEqual(identity(ONE), (0, "mark 0", "1"))
        self.assertEqual(identity(PAGE), (None, "background", ""))


class KeyedTest(unittest.TestCase):
    def test_ordinary_scenes(self):
        self.assertIs(is_keyed(BEFORE), True)
        self.assertIs(is_keyed(AFTER), True)

    def test_scenes_without_primitives_and_with_one(self):
        self.assertIs(is_keyed((10, 6, ())), True)
        self.assertIs(is_keyed((0, 0, ())), True)
        self.assertIs(is_keyed((10, 6, (ONE,))), True)

    def test_the_same_primitive_twice(self):
        self.assertIs(is_keyed((10, 6, (ONE, TWO, ONE))), False)
        self.assertIs(is_keyed((10, 6, (ONE, ONE))), False)

    def test_an_identity_with_two_forms(self):
        other = block(0, "1", (5, 5, 1, 1), fill=RED)
        self.assertIs(is_keyed((10, 6, (ONE, PAGE, other))), False)

    def test_identities_that_agree_in_one_or_two_parts(self):
        names = list(product((None, 0, 1), ("mark 0", "mark 1", ""), ("", "a", "mark 0")))
        items = tuple(block(plot, key, role=role) for plot, role, key in names)
        self.assertIs(is_keyed((1, 1, items)), True)
        for first, second in product(items, items):
            self.assertIs(is_keyed((1, 1, (first, second))), first is not second)


class WithoutKeysTest(unittest.TestCase):
    def test_only_the_keys_are_replaced(self):
        self.assertEqual(without_keys((10, 6, (PAGE, ONE, TWO))), (10, 6, (
            PAGE,
            (0, "mark 0", "", "rectangle", (1, 1, 2, 4), "", "#3a6ea8", None, None),
            (0, "mark 0", "", "rectangle", (4, 3, 2, 2), "", "#3a6ea8", None, None))))

    def test_all_other_fields_stay(self):
        item = (3, "label 1", "7", "text end", (4, 5), "north", RED, BLUE, (1, 2, 3, 4))
        expected = (3, "label 1", "", "text end", (4, 5), "north", RED, BLUE, (1, 2, 3, 4))
        self.assertEqual(without_keys((20, 30, (item,))), (20, 30, (expected,)))

    def test_a_scene_without_primitives(self):
        self.assertEqual(without_keys((10, 6, ())), (10, 6, ()))

    def test_the_scene_stays_as_it_is(self):
        without_keys(BEFORE)
        self.assertEqual(BEFORE, (10, 6, (PAGE, ONE, TWO)))


class ReachTest(unittest.TestCase):
    def test_without_a_clip_it_is_the_rectangle_around_the_shape(self):
        expected = {"rectangle": (1, 1, 4, 3), "line": (1, 1, 5, 3), "polyline": (1, 1, 5, 6), "circle": (1, 1, 5, 5),
                    "text start": (1, 1, 9, 7), "text middle": (1, 1, 9, 7), "text end": (0, 1, 9, 7)}
        for shape, box in expected.items():
            self.assertEqual(reach(primitive(shape)), box, shape)

    def test_with_a_clip_it_is_the_common_part(self):
        self.assertEqual(reach(primitive("circle", clip=(2, 0, 10, 4))), (2, 1, 4, 3))
        self.assertEqual(reach(primitive("circle", clip=(0, 0, 100, 100))), (1, 1, 5, 5))
        self.assertEqual(reach(primitive("text start", clip=(9, 7, 5, 5))), (9, 7, 1, 1))

    def test_a_clip_that_cuts_everything_away(self):
        for clip in ((6, 1, 5, 5), (1, 6, 5, 5), (3, 3, 0, 5), (3, 3, 5, 0), (0, 0, 1, 1), (0, 0, 0, 0)):
            self.assertIsNone(reach(primitive("circle", clip=clip)), clip)

    def test_shapes_without_pixels(self):
        self.assertIsNone(reach(block(0, "1", (3, 3, 0, 5))))
        self.assertIsNone(reach(block(0, "1", (3, 3, 5, 0))))
        self.assertIsNone(reach(block(0, "1", (3, 3, 5, 0), clip=(0, 0, 9, 9))))
        self.assertIsNone(reach((0, "r", "k", "text middle", (3, 3), "", RED, None, None)))

    def test_colors_play_no_part(self):
        self.assertEqual(reach(primitive("circle", fill=None, stroke=None)), (1, 1, 5, 5))

    def test_a_space_has_a_reach(self):
        self.assertEqual(reach((0, "r", "k", "text start", (3, 3), " ", RED, None, None)), (3, 3, 3, 7))


class VisiblePartTest(unittest.TestCase):
    def test_within_the_page(self):
        self.assertEqual(visible_part((20, 20, ()), primitive("circle")), (1, 1, 5, 5))
        self.assertEqual(visible_part((5, 4, ()), primitive("circle")), (1, 1, 4, 3))
        self.assertEqual(visible_part(BEFORE, block(0, "9", (-3, -2, 5, 4))), (0, 0, 2, 2))
        self.assertEqual(visible_part(BEFORE, block(0, "9", (8, 5, 5, 4))), (8, 5, 2, 1))

    def test_page_and_clip(self):
        item = primitive("circle", clip=(3, 2, 20, 20))
        self.assertEqual(visible_part((5, 4, ()), item), (3, 2, 2, 2))

    def test_outside_the_page(self):
        for box in ((10, 0, 5, 5), (0, 6, 5, 5), (-5, 0, 5, 5), (0, -5, 5, 5)):
            self.assertIsNone(visible_part(BEFORE, block(0, "9", box)), box)

    def test_without_a_reach(self):
        self.assertIsNone(visible_part(BEFORE, block(0, "9", (3, 3, 0, 2))))
        self.assertIsNone(visible_part(BEFORE, primitive("circle", clip=(3, 3, 0, 5))))

    def test_pages_without_pixels(self):
        for size in ((0, 0), (0, 20), (20, 0)):
            self.assertIsNone(visible_part(size + ((),), primitive("circle")), size)


class PaintTest(unittest.TestCase):
    def test_lines_have_their_stroke_all_others_their_fill(self):
        places = {"rectangle": (1, 1), "line": (1, 1), "polyline": (5, 3), "circle": (3, 3), "text start": (1, 1),
                  "text middle": (1, 1), "text end": (0, 1)}
        for shape, (x, y) in places.items():
            color = BLUE if shape in ("line", "polyline") else RED
            other = {"fill": None} if color == BLUE else {"stroke": None}
            same = {"stroke": None} if color == BLUE else {"fill": None}
            self.assertEqual(paint_of(primitive(shape), x, y), color, shape)
            self.assertEqual(paint_of(primitive(shape, **other), x, y), color, shape)
            self.assertIsNone(paint_of(primitive(shape, **same), x, y), shape)
            self.assertIsNone(paint_of(primitive(shape, fill=None, stroke=None), x, y), shape)

    def test_pixels_that_the_shape_does_not_cover(self):
        self.assertIsNone(paint_of(primitive("rectangle"), 0, 1))
        self.assertIsNone(paint_of(primitive("rectangle"), 5, 1))
        self.assertIsNone(paint_of(primitive("circle"), 1, 1))
        self.assertIsNone(paint_of(primitive("line"), 3, 1))
        self.assertIsNone(paint_of(primitive("text start"), 5, 1))

    def test_the_clip(self):
        item = primitive("rectangle", clip=(2, 2, 2, 5))
        found = {(x, y) for x, y in product(range(-2, 12), repeat=2) if paint_of(item, x, y) == RED}
        self.assertEqual(found, pixels_of((2, 2, 2, 2)))
        line = primitive("line", clip=(2, 1, 2, 2))
        found = {(x, y) for x, y in product(range(-2, 12), repeat=2) if paint_of(line, x, y) == BLUE}
        self.assertEqual(found, {(2, 1), (2, 2), (3, 2)})

    def test_a_clip_that_cuts_everything_away(self):
        for clip in ((2, 2, 0, 5), (2, 2, 5, 0), (50, 50, 5, 5)):
            item = primitive("rectangle", clip=clip)
            self.assertEqual({paint_of(item, x, y) for x, y in product(range(60), repeat=2)}, {None})

    def test_the_page_plays_no_part(self):
        self.assertEqual(paint_of(block(0, "1", (-20, -20, 5, 5), fill=RED), -18, -18), RED)

    def test_painted_pixels_lie_in_the_reach(self):
        random = Random(43)
        for _ in range(200):
            item = some_primitive(random, 0, "mark 0", "k")
            box = reach(item)
            allowed = set() if box is None else pixels_of(box)
            for x, y in product(range(-10, 20), repeat=2):
                if paint_of(item, x, y) is not None:
                    self.assertIn((x, y), allowed, item)


if __name__ == "__main__":
    unittest.main()
