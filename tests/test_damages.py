"""Points 61, 62 and 66."""

import copy
import unittest
from itertools import permutations
from random import Random

from samples import (AFTER, BEFORE, EMPTY_PATCH, GROWN, ONE, PAGE, THREE, TWO, block, name_of, painting, some_change,
                     some_scene)

from chartspec.damages import diff, moved
from chartspec.patches import merged_order, misfit, patched, touched
from chartspec.rectangles import contains, hull
from chartspec.scenes import visible_part

N_PAGE, N_ONE, N_TWO, N_THREE = (name_of(item) for item in (PAGE, ONE, TWO, THREE))


def row_of(letters, *, plot=0, size=(40, 40)):
    """A scene with a pixel for each letter, each letter in a column of its own."""
    return size + (tuple(block(plot, letter, (ord(letter) - ord("a"), 0, 1, 1)) for letter in letters),)


def letters_of(names):
    return "".join(name[2] for name in names)


class ExampleTest(unittest.TestCase):
    def test_the_difference(self):
        expected = (None, ((0, "mark 0", "1"),), (GROWN, THREE), None, ((1, 0, 8, 5),))
        self.assertEqual(diff(BEFORE, AFTER), expected)

    def test_the_order(self):
        patch = diff(BEFORE, (10, 6, (PAGE, THREE, GROWN)))
        self.assertEqual(patch[3], ((None, "background", ""), (0, "mark 0", "3"), (0, "mark 0", "2")))

    def test_nothing_is_moved(self):
        self.assertEqual(moved(BEFORE, AFTER), ())

    def test_the_patch_leads_to_the_second_scene(self):
        self.assertEqual(patched(BEFORE, diff(BEFORE, AFTER)), AFTER)
        self.assertEqual(patched(AFTER, diff(AFTER, BEFORE)), BEFORE)


class SizeTest(unittest.TestCase):
    def test_pages_of_the_same_size(self):
        self.assertIsNone(diff(BEFORE, AFTER)[0])
        self.assertIsNone(diff((0, 0, ()), (0, 0, ()))[0])

    def test_another_width_or_height(self):
        for size in ((11, 6), (10, 7), (6, 10), (1, 1)):
            patch = diff(BEFORE, size + BEFORE[2:])
            self.assertEqual(patch, (size, (), (), None, ((0, 0) + size,)), size)

    def test_a_page_of_another_size_without_pixels(self):
        for size in ((0, 6), (10, 0), (0, 0)):
            patch = diff(BEFORE, size + AFTER[2:])
            self.assertEqual(patch, (size, (N_ONE,), (GROWN, THREE), None, ()), size)

    def test_from_a_page_without_pixels(self):
        patch = diff((0, 0, ()), BEFORE)
        self.assertEqual(patch, ((10, 6), (), (PAGE, ONE, TWO), None, ((0, 0, 10, 6),)))

    def test_both_pages_without_pixels(self):
        self.assertEqual(diff((0, 6, (PAGE, ONE)), (0, 6, (PAGE, TWO))), (None, (N_ONE,), (TWO,), None, ()))
        self.assertEqual(diff((0, 6, (PAGE,)), (0, 7, (PAGE,))), ((0, 7), (), (), None, ()))


class RemovedAndPutTest(unittest.TestCase):
    def test_equal_scenes(self):
        for scene in (BEFORE, AFTER, (10, 6, ()), (0, 0, ())):
            self.assertEqual(diff(scene, scene), EMPTY_PATCH)
            self.assertEqual(diff(scene, copy.deepcopy(scene)), EMPTY_PATCH)

    def test_scenes_without_primitives(self):
        everything = (N_PAGE, N_ONE, N_TWO)
        self.assertEqual(diff(BEFORE, (10, 6, ())), (None, everything, (), None, ((0, 0, 10, 6), (1, 1, 5, 4))))
        self.assertEqual(diff((10, 6, ()), (10, 6, (TWO, ONE))), (None, (), (TWO, ONE), None, ((1, 1, 5, 4),)))

    def test_the_orders_of_removed_and_put(self):
        patch = diff(row_of("dcba"), row_of("xbzy"))
        self.assertEqual(letters_of(patch[1]), "dca")
        self.assertEqual(letters_of(name_of(item) for item in patch[2]), "xzy")

    def test_a_primitive_that_differs_in_one_field(self):
        first = (0, "mark 0", "1", "text start", (1, 1), "a", "#000000", "#111111", (0, 0, 5, 5))
        for place, value in ((3, "text end"), (4, (1, 2)), (4, (2, 1)), (5, "b"), (5, ""), (6, None), (6, "#000001"),
                             (7, None), (7, "#111112"), (8, None), (8, (0, 0, 5, 6))):
            second = first[:place] + (value,) + first[place + 1:]
            patch = diff((10, 6, (PAGE, first)), (10, 6, (PAGE, second)))
            self.assertEqual(patch[:4], (None, (), (second,), None), (place, value))

    def test_identities_that_agree_in_two_parts(self):
        first = block(0, "1")
        for second in (block(1, "1"), block(None, "1"), block(0, "2"), block(0, "1", role="mark 1")):
            patch = diff((10, 6, (first,)), (10, 6, (second,)))
            self.assertEqual(patch[:4], (None, (name_of(first),), (second,), None))


class OrderTest(unittest.TestCase):
    def order_of(self, first, second):
        found = diff(row_of(first), row_of(second))[3]
        return None if found is None else letters_of(found)

    def test_none_if_the_merged_order_is_right(self):
        self.assertIsNone(self.order_of("abc", "abc"))
        self.assertIsNone(self.order_of("abc", "acxy"))
        self.assertIsNone(self.order_of("abc", "b"))
        self.assertIsNone(self.order_of("abc", ""))
        self.assertIsNone(self.order_of("", "cab"))

    def test_all_identities_otherwise(self):
        self.assertEqual(self.order_of("abc", "acb"), "acb")
        self.assertEqual(self.order_of("abc", "xabc"), "xabc")
        self.assertEqual(self.order_of("abc", "abxc"), "abxc")
        self.assertEqual(self.order_of("abc", "cxb"), "cxb")

    def test_a_changed_primitive_keeps_its_place(self):
        self.assertIsNone(diff((10, 6, (PAGE, TWO, ONE)), (10, 6, (PAGE, GROWN, ONE)))[3])
        self.assertEqual(diff((10, 6, (PAGE, TWO, ONE)), (10, 6, (PAGE, ONE, GROWN)))[3], (N_PAGE, N_ONE, N_TWO))


class MovedTest(unittest.TestCase):
    def moved_letters(self, first, second):
        return letters_of(moved(row_of(first), row_of(second)))

    def test_nothing(self):
        self.assertEqual(moved(row_of("abc"), row_of("abc")), ())
        self.assertEqual(moved(row_of(""), row_of("")), ())
        self.assertEqual(moved(row_of("abc"), row_of("xayc")), ())
        self.assertEqual(moved(row_of("abc"), row_of("")), ())
        self.assertEqual(moved(row_of(""), row_of("abc")), ())

    def test_from_the_first_to_the_last_difference(self):
        self.assertEqual(self.moved_letters("abcde", "adcbe"), "bcd")
        self.assertEqual(self.moved_letters("abcde", "bacde"), "ab")
        self.assertEqual(self.moved_letters("abcde", "abced"), "de")
        self.assertEqual(self.moved_letters("abcde", "bacdfe"), "ab")
        self.assertEqual(self.moved_letters("abcde", "bcdea"), "abcde")
        self.assertEqual(self.moved_letters("abcde", "bacfed"), "abcde")

    def test_in_the_order_of_the_first_scene(self):
        self.assertEqual(self.moved_letters("dacb", "bcad"), "dacb")

    def test_removed_and_new_primitives_are_not_looked_at(self):
        self.assertEqual(self.moved_letters("axbycz", "zvac"), "acz")
        self.assertEqual(self.moved_letters("abc", "cxyab"), "abc")
        self.assertEqual(self.moved_letters("abc", "xcb"), "bc")

    def test_a_changed_primitive_is_not_moved(self):
        self.assertEqual(moved((10, 6, (TWO, ONE, PAGE)), (10, 6, (ONE, PAGE, GROWN))), ())
        self.assertEqual(moved((10, 6, (TWO, ONE, PAGE)), (10, 6, (PAGE, GROWN, ONE))), (N_ONE, N_PAGE))

    def test_the_size_of_the_page_plays_no_part(self):
        self.assertEqual(letters_of(moved(row_of("abc"), row_of("bac", size=(0, 0)))), "ab")

    def test_all_orders(self):
        for order in permutations("abcd"):
            places = [place for place in range(4) if order[place] != "abcd"[place]]
            expected = "abcd"[places[0]:places[-1] + 1] if places else ""
            self.assertEqual(self.moved_letters("abcd", "".join(order)), expected)


class DamageTest(unittest.TestCase):
    def damage(self, first, second, size=(40, 40)):
        return diff(size + (first,), size + (second,))[4]

    def test_a_primitive_put_elsewhere(self):
        old, new = block(0, "1", (1, 2, 3, 4)), block(0, "1", (20, 10, 2, 2))
        self.assertEqual(self.damage((old,), (new,)), ((1, 2, 21, 10),))

    def test_removed_and_new_primitives(self):
        item = block(0, "1", (1, 2, 3, 4))
        self.assertEqual(self.damage((item,), ()), ((1, 2, 3, 4),))
        self.assertEqual(self.damage((), (item,)), ((1, 2, 3, 4),))

    def test_a_change_of_color(self):
        self.assertEqual(self.damage((block(0, "1", (1, 2, 3, 4)),), (block(0, "1", (1, 2, 3, 4), fill=None),)),
                         ((1, 2, 3, 4),))

    def test_moved_primitives(self):
        first, second = row_of("abcde"), row_of("adcbe")
        self.assertEqual(diff(first, second)[4], ((1, 0, 3, 1),))

    def test_primitives_that_are_neither_touched_nor_moved_are_left_out(self):
        far, old, new = block(0, "9", (30, 30, 5, 5)), block(0, "1", (1, 2, 3, 4)), block(0, "1", (1, 2, 3, 5))
        self.assertEqual(self.damage((far, old), (far, new)), ((1, 2, 3, 5),))

    def test_only_visible_parts_count(self):
        clipped = block(0, "1", (1, 2, 30, 30), clip=(5, 5, 2, 2))
        beyond = block(0, "2", (35, 35, 30, 30))
        outside = block(0, "3", (-5, 3, 5, 5))
        empty = block(0, "4", (3, 30, 0, 5))
        self.assertEqual(self.damage((), (clipped,)), ((5, 5, 2, 2),))
        self.assertEqual(self.damage((), (beyond,)), ((35, 35, 5, 5),))
        self.assertEqual(self.damage((), (outside, empty)), ())
        self.assertEqual(self.damage((), (outside, clipped, empty)), ((5, 5, 2, 2),))

    def test_a_primitive_that_becomes_visible(self):
        hidden, shown = block(0, "1", (1, 2, 3, 4), clip=(9, 9, 1, 1)), block(0, "1", (1, 2, 3, 4))
        self.assertEqual(self.damage((hidden,), (shown,)), ((1, 2, 3, 4),))
        self.assertEqual(self.damage((shown,), (hidden,)), ((1, 2, 3, 4),))

    def test_primitives_without_colors_count(self):
        self.assertEqual(self.damage((), (block(0, "1", (1, 2, 3, 4), fill=None),)), ((1, 2, 3, 4),))

    def test_a_hull_for_each_plot_in_the_order_in_which_they_are_met(self):
        first = (block(2, "1", (0, 0, 1, 1)), block(None, "1", (10, 0, 1, 1)), block(2, "2", (0, 5, 1, 1)))
        second = (block(0, "1", (20, 0, 1, 1)), block(None, "2", (10, 7, 1, 1)), block(1, "1", (30, 0, 1, 1)))
        expected = ((0, 0, 1, 6), (10, 0, 1, 8), (20, 0, 1, 1), (30, 0, 1, 1))
        self.assertEqual(self.damage(first, second), expected)

    def test_the_first_scene_comes_first(self):
        first = (block(None, "1", (10, 0, 1, 1)),)
        second = (block(0, "1", (20, 0, 1, 1)), block(None, "2", (10, 7, 1, 1)))
        self.assertEqual(self.damage(first, second), ((10, 0, 1, 8), (20, 0, 1, 1)))
        self.assertEqual(self.damage(second, first), ((20, 0, 1, 1), (10, 0, 1, 8)))

    def test_what_is_not_visible_does_not_decide_which_plot_comes_first(self):
        first = (block(1, "1", (50, 0, 1, 1)), block(0, "1", (3, 3, 1, 1)))
        self.assertEqual(self.damage(first, (block(1, "2", (5, 5, 1, 1)),)), ((3, 3, 1, 1), (5, 5, 1, 1)))

    def test_plots_that_are_left_alone_do_not_count(self):
        still = block(1, "1", (1, 1, 1, 1))
        self.assertEqual(self.damage((still,), (still, block(0, "1", (3, 3, 1, 1)))), ((3, 3, 1, 1),))

    def test_a_page_of_another_size(self):
        patch = diff((40, 40, (ONE, TWO)), (40, 41, (TWO, ONE)))
        self.assertEqual(patch, ((40, 41), (), (), (N_TWO, N_ONE), ((0, 0, 40, 41),)))

    def test_the_arguments_stay_as_they_are(self):
        kept = copy.deepcopy((BEFORE, AFTER))
        diff(BEFORE, AFTER), moved(BEFORE, AFTER)
        self.assertEqual((BEFORE, AFTER), kept)


class ManyScenesTest(unittest.TestCase):
    """The words of 61 and 62, once more, for scenes of any kind."""

    def scenes(self, many):
        random = Random(61)
        for _ in range(many):
            first = some_scene(random, (9, 7))
            yield first, some_change(random, first)

    def test_the_patch_fits_and_leads_to_the_second_scene(self):
        for first, second in self.scenes(400):
            patch = diff(first, second)
            self.assertIsNone(misfit(first, patch))
            self.assertEqual(patched(first, patch), second)

    def test_the_patch_touches_what_differs(self):
        for first, second in self.scenes(400):
            size, removed, put, order, _ = diff(first, second)
            old, new = [name_of(item) for item in first[2]], [name_of(item) for item in second[2]]
            self.assertEqual(size, None if first[:2] == second[:2] else second[:2])
            self.assertEqual(removed, tuple(name for name in old if name not in new))
            self.assertEqual(put, tuple(item for item in second[2] if item not in first[2]))
            merged = merged_order(first, (None, removed, put, None, ()))
            self.assertEqual(order, None if tuple(new) == merged else tuple(new))

    def test_the_damage(self):
        for first, second in self.scenes(400):
            patch = diff(first, second)
            concerned = [*touched(patch), *moved(first, second)]
            items = [item for item in first[2] + second[2] if name_of(item) in concerned]
            items = [item for item in items if visible_part(second, item) is not None]
            plots = sorted({item[0] for item in items}, key=[item[0] for item in items].index)
            expected = tuple(hull(tuple(visible_part(second, item) for item in items if item[0] == plot))
                             for plot in plots)
            if patch[0] is not None:
                expected = ((0, 0) + patch[0],) if patch[0][0] * patch[0][1] else ()
            self.assertEqual(patch[4], expected)

    def test_pixels_that_differ_lie_in_the_damage(self):
        for first, second in self.scenes(150):
            if first[:2] != second[:2]:
                continue
            damage = diff(first, second)[4]
            old, new = painting(first), painting(second)
            for x, y in old:
                if old[x, y] != new[x, y]:
                    self.assertTrue(any(contains(box, x, y) for box in damage), (first, second))


if __name__ == "__main__":
    unittest.main()
