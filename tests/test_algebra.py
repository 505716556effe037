"""Point 65, with the difference and the applying of points 60 to 64."""

import copy
import unittest
from random import Random

from samples import AFTER, BEFORE, EMPTY_PATCH, GROWN, ONE, PAGE, THREE, TWO, block, name_of, some_change, some_scene

from chartspec.algebra import composed, inverse
from chartspec.damages import diff
from chartspec.errors import ChartError, PatchDoesNotFit
from chartspec.patches import patched, touched

N_PAGE, N_ONE, N_TWO, N_THREE = (name_of(item) for item in (PAGE, ONE, TWO, THREE))
UNKNOWN = (7, "mark 0", "1")


class InverseTest(unittest.TestCase):
    def test_the_example(self):
        expected = (None, (N_THREE,), (ONE, TWO), (N_PAGE, N_ONE, N_TWO), ((1, 0, 8, 5),))
        self.assertEqual(inverse(BEFORE, diff(BEFORE, AFTER)), expected)

    def test_an_empty_patch(self):
        self.assertEqual(inverse(BEFORE, EMPTY_PATCH), EMPTY_PATCH)
        self.assertEqual(inverse((0, 0, ()), EMPTY_PATCH), EMPTY_PATCH)

    def test_a_patch_that_changes_the_size(self):
        patch = ((20, 5), (), (), None, ())
        self.assertEqual(inverse(BEFORE, patch), ((10, 6), (), (), None, ((0, 0, 10, 6),)))
        self.assertEqual(inverse((0, 6, (ONE,)), patch), ((0, 6), (), (), None, ()))

    def test_a_size_that_is_that_of_the_scene(self):
        self.assertEqual(inverse(BEFORE, ((10, 6), (), (), None, ((0, 0, 10, 6),))), EMPTY_PATCH)

    def test_a_patch_that_changes_the_order(self):
        patch = (None, (), (), (N_TWO, N_PAGE, N_ONE), ())
        # The scene after the patch is the first one here, so the plot of its first primitive comes first.
        expected = (None, (), (), (N_PAGE, N_ONE, N_TWO), ((1, 1, 5, 4), (0, 0, 10, 6)))
        self.assertEqual(inverse(BEFORE, patch), expected)

    def test_an_order_that_is_the_merged_order(self):
        patch = (None, (N_ONE,), (), (N_PAGE, N_TWO), ())
        expected = (None, (), (ONE,), (N_PAGE, N_ONE, N_TWO), ((1, 1, 2, 4),))
        self.assertEqual(inverse(BEFORE, patch), expected)

    def test_a_patch_that_puts_what_is_there(self):
        self.assertEqual(inverse(BEFORE, (None, (), (ONE, PAGE), None, ((0, 0, 10, 6),))), EMPTY_PATCH)

    def test_a_patch_that_removes_all(self):
        patch = (None, (N_TWO, N_PAGE, N_ONE), (), None, ())
        self.assertEqual(inverse(BEFORE, patch), (None, (), (PAGE, ONE, TWO), None, ((0, 0, 10, 6), (1, 1, 5, 4))))

    def test_patches_that_do_not_fit(self):
        cases = (
            ((None, (N_ONE, N_ONE), (), None, ()), ("removed twice", N_ONE)),
            ((None, (UNKNOWN,), (), None, ()), ("not there", UNKNOWN)),
            ((None, (), (THREE, THREE), None, ()), ("put twice", N_THREE)),
            ((None, (N_ONE,), (ONE,), None, ()), ("removed and put", N_ONE)),
            ((None, (), (), (N_ONE, N_ONE), ()), ("ordered twice", N_ONE)),
            ((None, (), (), (UNKNOWN,), ()), ("not expected", UNKNOWN)),
            ((None, (), (), (N_TWO, N_PAGE), ()), ("not ordered", N_ONE)),
        )
        for patch, reason in cases:
            with self.assertRaises(PatchDoesNotFit) as caught:
                inverse(BEFORE, patch)
            self.assertEqual(caught.exception.reason, reason)
            self.assertIsInstance(caught.exception, ChartError)

    def test_it_leads_back(self):
        random = Random(65)
        for _ in range(300):
            scene = some_scene(random, (9, 7))
            after = some_change(random, scene)
            patch = diff(scene, after)
            back = inverse(scene, patch)
            self.assertEqual(back, diff(after, scene))
            self.assertEqual(patched(after, back), scene)
            self.assertEqual(inverse(after, back), patch)


class ComposedTest(unittest.TestCase):
    def test_the_example(self):
        self.assertEqual(composed(BEFORE, (diff(BEFORE, AFTER), diff(AFTER, BEFORE))), EMPTY_PATCH)

    def test_no_patches(self):
        for scene in (BEFORE, AFTER, (10, 6, ()), (0, 0, ())):
            self.assertEqual(composed(scene, ()), EMPTY_PATCH)

    def test_a_single_patch(self):
        patch = diff(BEFORE, AFTER)
        self.assertEqual(composed(BEFORE, (patch,)), patch)

    def test_a_single_patch_that_leaves_something_as_it_is(self):
        loose = ((10, 6), (), (PAGE, GROWN, ONE), (N_PAGE, N_ONE, N_TWO), ((0, 0, 10, 6),))
        found = composed(BEFORE, (loose,))
        self.assertEqual(found, (None, (), (GROWN,), None, ((4, 2, 2, 3),)))
        self.assertEqual(touched(found), (N_TWO,))

    def test_each_patch_is_applied_to_the_scene_after_the_one_before(self):
        patches = ((None, (), (THREE,), None, ()), (None, (N_THREE,), (GROWN,), None, ()),
                   (None, (), (), (N_TWO, N_PAGE, N_ONE), ()))
        expected = diff(BEFORE, (10, 6, (GROWN, PAGE, ONE)))
        self.assertEqual(composed(BEFORE, patches), expected)
        self.assertEqual(expected[1:4], ((), (GROWN,), (N_TWO, N_PAGE, N_ONE)))

    def test_something_new_that_is_removed_again(self):
        patches = ((None, (), (THREE,), None, ()), (None, (N_THREE,), (), None, ()))
        self.assertEqual(composed(BEFORE, patches), EMPTY_PATCH)

    def test_patches_that_change_the_size(self):
        wide, high = ((20, 6), (), (), None, ()), ((20, 30), (), (), None, ())
        self.assertEqual(composed(BEFORE, (wide, high)), ((20, 30), (), (), None, ((0, 0, 20, 30),)))
        self.assertEqual(composed(BEFORE, (wide, ((10, 6), (), (), None, ()))), EMPTY_PATCH)
        self.assertEqual(composed(BEFORE, (wide, ((0, 6), (), (), None, ()))), ((0, 6), (), (), None, ()))

    def test_patches_that_change_the_order(self):
        first = (None, (), (), (N_TWO, N_ONE, N_PAGE), ())
        self.assertEqual(composed(BEFORE, (first, (None, (), (), (N_PAGE, N_ONE, N_TWO), ()))), EMPTY_PATCH)
        found = composed(BEFORE, (first, (None, (N_ONE,), (), None, ())))
        self.assertEqual(found, diff(BEFORE, (10, 6, (TWO, PAGE))))
        self.assertEqual(found[3], (N_TWO, N_PAGE))

    def test_the_first_patch_that_does_not_fit(self):
        good, removing = (None, (), (THREE,), None, ()), (None, (N_ONE,), (), None, ())
        bad, worse = (None, (UNKNOWN,), (), None, ()), (None, (), (TWO, TWO), None, ())
        cases = (
            ((bad,), ("not there", UNKNOWN)),
            ((bad, worse), ("not there", UNKNOWN)),
            ((worse, bad), ("put twice", N_TWO)),
            ((good, removing, worse, bad), ("put twice", N_TWO)),
            ((removing, removing), ("not there", N_ONE)),
            ((removing, good, (None, (), (), (N_PAGE, N_ONE), ())), ("not expected", N_ONE)),
            ((good, (None, (), (), (N_PAGE, N_ONE, N_TWO), ())), ("not ordered", N_THREE)),
        )
        for patches, reason in cases:
            with self.assertRaises(PatchDoesNotFit) as caught:
                composed(BEFORE, patches)
            self.assertEqual(caught.exception.reason, reason)

    def test_it_leads_to_the_scene_after_all(self):
        random = Random(66)
        for _ in range(150):
            scenes = [some_scene(random, (9, 7))]
            for _ in range(random.randrange(4)):
                scenes.append(some_change(random, scenes[-1]))
            patches = tuple(diff(first, second) for first, second in zip(scenes, scenes[1:]))
            self.assertEqual(composed(scenes[0], patches), diff(scenes[0], scenes[-1]))
            self.assertEqual(patched(scenes[0], composed(scenes[0], patches)), scenes[-1])


class ArgumentTest(unittest.TestCase):
    def test_they_stay_as_they_are(self):
        scene = (10, 6, (PAGE, ONE, TWO, block(1, "9")))
        patches = ((None, (N_ONE,), (GROWN,), None, ()), ((5, 5), (), (THREE,), None, ()))
        kept = copy.deepcopy((scene, patches))
        inverse(scene, patches[0])
        composed(scene, patches)
        self.assertRaises(PatchDoesNotFit, composed, scene, patches + patches)
        self.assertEqual((scene, patches), kept)


if __name__ == "__main__":
    unittest.main()
