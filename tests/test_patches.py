"""Points 60, 63 and 64."""

import copy
import unittest
from random import Random

from samples import AFTER, BEFORE, EMPTY_PATCH, GROWN, ONE, PAGE, THREE, TWO, block, name_of, some_change, some_scene

from chartspec.damages import diff
from chartspec.errors import ChartError, PatchDoesNotFit
from chartspec.patches import merged_order, misfit, patched, touched
from chartspec.scenes import is_keyed

N_PAGE, N_ONE, N_TWO, N_THREE = (name_of(item) for item in (PAGE, ONE, TWO, THREE))
UNKNOWN = (7, "mark 0", "1")


def patch_of(*, size=None, removed=(), put=(), order=None, damage=()):
    return (size, removed, put, order, damage)


class MergedOrderTest(unittest.TestCase):
    def test_the_example(self):
        patch = patch_of(removed=(N_ONE,), put=(GROWN, THREE))
        self.assertEqual(merged_order(BEFORE, patch), (N_PAGE, N_TWO, N_THREE))

    def test_an_empty_patch(self):
        self.assertEqual(merged_order(BEFORE, EMPTY_PATCH), (N_PAGE, N_ONE, N_TWO))
        self.assertEqual(merged_order((0, 0, ()), EMPTY_PATCH), ())

    def test_new_identities_come_last_in_the_order_of_put(self):
        first, second = block(1, "z"), block(None, "a")
        patch = patch_of(put=(second, GROWN, first))
        self.assertEqual(merged_order(BEFORE, patch), (N_PAGE, N_ONE, N_TWO, name_of(second), name_of(first)))

    def test_a_scene_without_primitives(self):
        self.assertEqual(merged_order((3, 3, ()), patch_of(put=(TWO, ONE))), (N_TWO, N_ONE))

    def test_all_removed(self):
        self.assertEqual(merged_order(BEFORE, patch_of(removed=(N_TWO, N_PAGE, N_ONE))), ())

    def test_size_order_and_damage_play_no_part(self):
        patch = patch_of(size=(1, 1), order=(N_THREE,), put=(THREE,), damage=((0, 0, 1, 1),))
        self.assertEqual(merged_order(BEFORE, patch), (N_PAGE, N_ONE, N_TWO, N_THREE))

    def test_patches_that_do_not_fit(self):
        cases = (
            (patch_of(put=(THREE, THREE, THREE)), (N_PAGE, N_ONE, N_TWO, N_THREE)),
            (patch_of(removed=(UNKNOWN, N_ONE, N_ONE)), (N_PAGE, N_TWO)),
            (patch_of(removed=(N_TWO,), put=(GROWN,)), (N_PAGE, N_ONE)),
            (patch_of(removed=(N_THREE,), put=(THREE,)), (N_PAGE, N_ONE, N_TWO, N_THREE)),
        )
        for patch, expected in cases:
            self.assertEqual(merged_order(BEFORE, patch), expected, patch)


class TouchedTest(unittest.TestCase):
    def test_removed_come_first(self):
        patch = patch_of(removed=(N_ONE,), put=(GROWN, THREE))
        self.assertEqual(touched(patch), (N_ONE, N_TWO, N_THREE))

    def test_an_empty_patch(self):
        self.assertEqual(touched(EMPTY_PATCH), ())

    def test_each_as_often_as_it_occurs(self):
        patch = patch_of(removed=(UNKNOWN, N_ONE, UNKNOWN), put=(TWO, ONE, GROWN, TWO))
        self.assertEqual(touched(patch), (UNKNOWN, N_ONE, UNKNOWN, N_TWO, N_ONE, N_TWO, N_TWO))

    def test_size_order_and_damage_play_no_part(self):
        patch = patch_of(size=(1, 1), order=(N_THREE,), damage=((0, 0, 1, 1),))
        self.assertEqual(touched(patch), ())


class MisfitTest(unittest.TestCase):
    def check(self, expected, scene=BEFORE, **parts):
        """The misfit is this one, `patched` raises it, and scene and patch stay as they are."""
        patch = patch_of(**parts)
        kept = copy.deepcopy((scene, patch))
        self.assertEqual(misfit(scene, patch), expected)
        if expected is not None:
            with self.assertRaises(PatchDoesNotFit) as caught:
                patched(scene, patch)
            self.assertEqual(caught.exception.reason, expected)
            self.assertIsInstance(caught.exception, ChartError)
        self.assertEqual((scene, patch), kept)

    def test_patches_that_fit(self):
        self.check(None)
        self.check(None, scene=(0, 0, ()))
        self.check(None, removed=(N_ONE,), put=(GROWN, THREE))
        self.check(None, order=(N_TWO, N_PAGE, N_ONE))
        self.check(None, removed=(N_PAGE, N_ONE, N_TWO), order=())

    def test_size_and_damage_play_no_part(self):
        self.check(None, size=(0, 0), damage=((5, 5, 0, 0), (-100, -100, 9, 9)))
        self.check(("not there", UNKNOWN), size=(0, 0), damage=((5, 5, 0, 0),), removed=(UNKNOWN,))

    def test_removed_twice(self):
        self.check(("removed twice", N_ONE), removed=(N_ONE, N_TWO, N_ONE))
        self.check(("removed twice", N_TWO), removed=(N_ONE, N_TWO, N_TWO, N_ONE))

    def test_not_there(self):
        self.check(("not there", UNKNOWN), removed=(N_ONE, UNKNOWN))
        self.check(("not there", N_ONE), scene=(10, 6, ()), removed=(N_ONE,))
        for name in ((1, "mark 0", "1"), (0, "mark 1", "1"), (0, "mark 0", "3"), (None, "mark 0", "1")):
            self.check(("not there", name), removed=(name,))

    def test_the_first_identity_of_removed_decides(self):
        self.check(("not there", UNKNOWN), removed=(UNKNOWN, UNKNOWN))
        self.check(("not there", UNKNOWN), removed=(N_ONE, UNKNOWN, N_ONE))
        self.check(("removed twice", N_ONE), removed=(N_ONE, N_ONE, UNKNOWN))

    def test_put_twice(self):
        self.check(("put twice", N_TWO), put=(GROWN, THREE, TWO))
        self.check(("put twice", N_THREE), put=(THREE, THREE))

    def test_removed_and_put(self):
        self.check(("removed and put", N_TWO), removed=(N_ONE, N_TWO), put=(THREE, GROWN))

    def test_the_first_primitive_of_put_decides(self):
        self.check(("removed and put", N_TWO), removed=(N_TWO,), put=(GROWN, GROWN))
        self.check(("removed and put", N_TWO), removed=(N_TWO,), put=(THREE, GROWN, THREE))
        self.check(("put twice", N_THREE), removed=(N_TWO,), put=(THREE, THREE, GROWN))

    def test_ordered_twice(self):
        self.check(("ordered twice", N_PAGE), order=(N_PAGE, N_ONE, N_PAGE, N_TWO))

    def test_not_expected(self):
        self.check(("not expected", N_THREE), order=(N_PAGE, N_ONE, N_THREE, N_TWO))
        self.check(("not expected", N_ONE), removed=(N_ONE,), order=(N_PAGE, N_ONE, N_TWO))
        self.check(("not expected", UNKNOWN), scene=(10, 6, ()), order=(UNKNOWN,))

    def test_the_first_identity_of_order_decides(self):
        self.check(("not expected", UNKNOWN), order=(UNKNOWN, UNKNOWN))
        self.check(("not expected", UNKNOWN), order=(N_PAGE, UNKNOWN, N_PAGE))
        self.check(("ordered twice", N_PAGE), order=(N_PAGE, N_PAGE, UNKNOWN))

    def test_not_ordered(self):
        self.check(("not ordered", N_ONE), order=(N_PAGE, N_TWO))
        self.check(("not ordered", N_ONE), order=(N_PAGE,))
        self.check(("not ordered", N_PAGE), order=())
        self.check(("not ordered", N_THREE), put=(THREE,), order=(N_TWO, N_ONE, N_PAGE))

    def test_removed_before_put_before_order(self):
        wrong_put, wrong_order = (THREE, THREE), (N_PAGE, N_PAGE)
        self.check(("not there", UNKNOWN), removed=(UNKNOWN,), put=wrong_put, order=wrong_order)
        self.check(("removed twice", N_ONE), removed=(N_ONE, N_ONE), put=wrong_put, order=wrong_order)
        self.check(("put twice", N_THREE), put=wrong_put, order=wrong_order)
        self.check(("put twice", N_THREE), put=wrong_put, order=())
        self.check(("ordered twice", N_PAGE), order=wrong_order)
        self.check(("not expected", UNKNOWN), order=(UNKNOWN,))


class PatchedTest(unittest.TestCase):
    def test_the_example(self):
        patch = patch_of(removed=(N_ONE,), put=(GROWN, THREE), damage=((1, 0, 8, 5),))
        self.assertEqual(patched(BEFORE, patch), AFTER)

    def test_an_empty_patch(self):
        self.assertEqual(patched(BEFORE, EMPTY_PATCH), BEFORE)
        self.assertEqual(patched((0, 0, ()), EMPTY_PATCH), (0, 0, ()))

    def test_the_size(self):
        self.assertEqual(patched(BEFORE, patch_of(size=(3, 70))), (3, 70, (PAGE, ONE, TWO)))
        self.assertEqual(patched(BEFORE, patch_of(size=(0, 0))), (0, 0, (PAGE, ONE, TWO)))
        self.assertEqual(patched(BEFORE, patch_of(size=(10, 6))), BEFORE)

    def test_what_is_put_stands_in_place_of_what_was_there(self):
        other = ONE[:6] + ("#ff0000", None, (0, 0, 1, 1))
        self.assertEqual(patched(BEFORE, patch_of(put=(GROWN, other))), (10, 6, (PAGE, other, GROWN)))

    def test_a_primitive_may_be_put_unchanged(self):
        self.assertEqual(patched(BEFORE, patch_of(put=(ONE,))), BEFORE)

    def test_new_primitives_come_last(self):
        label = block(0, "1", role="label 0")
        self.assertEqual(patched(BEFORE, patch_of(put=(label, THREE))), (10, 6, (PAGE, ONE, TWO, label, THREE)))

    def test_the_order(self):
        patch = patch_of(removed=(N_ONE,), put=(THREE, GROWN), order=(N_THREE, N_PAGE, N_TWO))
        self.assertEqual(patched(BEFORE, patch), (10, 6, (THREE, PAGE, GROWN)))
        self.assertEqual(patched(BEFORE, patch_of(order=(N_TWO, N_ONE, N_PAGE))), (10, 6, (TWO, ONE, PAGE)))

    def test_everything_removed(self):
        names = (N_TWO, N_PAGE, N_ONE)
        self.assertEqual(patched(BEFORE, patch_of(removed=names)), (10, 6, ()))
        self.assertEqual(patched(BEFORE, patch_of(removed=names, order=())), (10, 6, ()))

    def test_a_scene_without_primitives(self):
        patch = patch_of(size=(10, 6), put=(PAGE, ONE, TWO))
        self.assertEqual(patched((0, 0, ()), patch), BEFORE)

    def test_the_damage_plays_no_part(self):
        self.assertEqual(patched(BEFORE, patch_of(damage=((0, 0, 0, 0), (3, 3, 3, 3)))), BEFORE)

    def test_the_arguments_stay_as_they_are(self):
        patch = patch_of(size=(4, 4), removed=(N_ONE,), put=(GROWN,), order=(N_TWO, N_PAGE))
        kept = copy.deepcopy((BEFORE, patch))
        self.assertEqual(patched(BEFORE, patch), (4, 4, (GROWN, PAGE)))
        self.assertEqual((BEFORE, patch), kept)

    def test_the_result_is_keyed(self):
        random = Random(64)
        for _ in range(200):
            first = some_scene(random, (9, 7))
            second = some_change(random, first)
            self.assertIs(is_keyed(patched(first, diff(first, second))), True)

    def test_many_primitives(self):
        items = tuple(block(0, str(number)) for number in range(10000))
        removed = tuple(name_of(item) for item in items[::2])
        put = tuple(block(1, str(number)) for number in range(5000))
        order = tuple(reversed([name_of(item) for item in items[1::2] + put]))
        scene = patched((9, 9, items), patch_of(removed=removed, put=put, order=order))
        self.assertEqual(scene[2], tuple(reversed(items[1::2] + put)))


if __name__ == "__main__":
    unittest.main()
