"""Point 80, with point 45."""

import copy
import unittest
from itertools import product
from random import Random

from samples import AFTER, BEFORE, ONE, PAGE, TWO, block, name_of, painting, some_scene

from chartspec.pictures import color_at, hit, hits
from chartspec.scenes import paint_of

N_PAGE, N_ONE, N_TWO = (name_of(item) for item in (PAGE, ONE, TWO))
RED, BLUE, WHITE = "#ff0000", "#0000ff", "#ffffff"


def line(key, ends, *, fill=None, stroke=BLUE, clip=None):
    return (0, "rule", key, "line", ends, "", fill, stroke, clip)


def scene_of(*items, size=(10, 10)):
    return size + (items,)


class PixelTest(unittest.TestCase):
    def check(self, scene, place, names, color):
        """The hits of the pixel have these identities, the color is this one, and the scene stays as it is."""
        kept = copy.deepcopy(scene)
        self.assertEqual(hits(scene, *place), tuple(names), (scene, place))
        self.assertEqual(hit(scene, *place), names[0] if names else None, (scene, place))
        self.assertEqual(color_at(scene, *place), color, (scene, place))
        self.assertEqual(scene, kept)

    def test_an_ordinary_scene(self):
        self.check(BEFORE, (1, 1), [N_ONE, N_PAGE], "#3a6ea8")
        self.check(BEFORE, (4, 3), [N_TWO, N_PAGE], "#3a6ea8")
        self.check(BEFORE, (4, 2), [N_PAGE], WHITE)
        self.check(AFTER, (4, 2), [N_TWO, N_PAGE], "#3a6ea8")

    def test_several_primitives_from_the_last_to_the_first(self):
        scene = scene_of(block(0, "a", (0, 0, 5, 5), fill=RED), block(1, "b", (3, 3, 5, 5), fill=BLUE),
                         block(None, "c", (4, 0, 1, 9), fill="#123456"))
        names = [name_of(item) for item in scene[2]]
        self.check(scene, (0, 0), [names[0]], RED)
        self.check(scene, (3, 3), [names[1], names[0]], BLUE)
        self.check(scene, (4, 4), [names[2], names[1], names[0]], "#123456")
        self.check(scene, (7, 7), [names[1]], BLUE)
        self.check(scene, (8, 8), [], WHITE)

    def test_pixels_outside_the_page(self):
        scene = scene_of(block(0, "a", (-50, -50, 200, 200), fill=RED), size=(10, 6))
        for place in ((-1, 0), (0, -1), (10, 0), (0, 6), (10, 6), (-100000, 3), (3, 100000), (10 ** 9, 10 ** 9)):
            self.check(scene, place, [], None)
        for place in ((0, 0), (9, 0), (0, 5), (9, 5)):
            self.check(scene, place, [(0, "mark 0", "a")], RED)

    def test_a_scene_without_primitives(self):
        self.check((3, 2, ()), (2, 1), [], WHITE)
        self.check((3, 2, ()), (3, 1), [], None)

    def test_pages_without_pixels(self):
        for size in ((0, 0), (0, 5), (5, 0)):
            self.check(scene_of(block(0, "a", (0, 0, 9, 9)), size=size), (0, 0), [], None)

    def test_a_missing_fill_or_stroke(self):
        under = block(0, "under", (0, 0, 9, 9), fill=RED)
        name = name_of(under)
        self.check(scene_of(under, block(0, "a", (0, 0, 9, 9), fill=None)), (3, 3), [name], RED)
        stroked = (0, "mark 0", "a", "circle", (3, 3, 3), "", None, BLUE, None)
        self.check(scene_of(under, stroked), (3, 3), [name], RED)
        self.check(scene_of(under, line("a", (0, 0, 9, 9), fill=BLUE, stroke=None)), (3, 3), [name], RED)
        self.check(scene_of(under, line("a", (0, 0, 9, 9), fill=RED)), (3, 3), [(0, "rule", "a"), name], BLUE)
        self.check(scene_of(block(0, "a", (0, 0, 9, 9), fill=None)), (3, 3), [], WHITE)

    def test_a_clip(self):
        under, over = block(0, "under", (0, 0, 9, 9), fill=RED), block(0, "over", (0, 0, 9, 9), clip=(2, 2, 3, 3))
        names = [name_of(over), name_of(under)]
        self.check(scene_of(under, over), (2, 2), names, "#000000")
        self.check(scene_of(under, over), (4, 4), names, "#000000")
        self.check(scene_of(under, over), (5, 4), names[1:], RED)
        self.check(scene_of(under, over), (1, 2), names[1:], RED)
        empty = block(0, "over", (0, 0, 9, 9), clip=(2, 2, 0, 3))
        self.check(scene_of(under, empty), (2, 2), names[1:], RED)

    def test_texts(self):
        text = (0, "label 0", "a", "text middle", (5, 1), "a b", RED, None, None)
        self.check(scene_of(text, size=(20, 9)), (2, 1), [name_of(text)], RED)
        self.check(scene_of(text, size=(20, 9)), (5, 1), [], WHITE)

    def test_a_scene_that_is_not_keyed(self):
        first, second = block(0, "", (0, 0, 5, 5), fill=RED), block(0, "", (3, 3, 5, 5), fill=BLUE)
        name = name_of(first)
        self.check(scene_of(first, second), (4, 4), [name, name], BLUE)
        self.check(scene_of(first, second), (1, 1), [name], RED)
        self.check(scene_of(second, first), (4, 4), [name, name], RED)
        self.check(scene_of(first, first), (4, 4), [name, name], RED)

    def test_many_scenes(self):
        random = Random(80)
        for _ in range(100):
            scene = some_scene(random, (9, 7))
            colors = painting(scene)
            for x, y in product(range(-1, 10), range(-1, 8)):
                painters = [item for item in scene[2] if paint_of(item, x, y) is not None]
                names = [name_of(item) for item in painters] if (x, y) in colors else []
                self.check(scene, (x, y), names[::-1], colors.get((x, y)))


if __name__ == "__main__":
    unittest.main()
