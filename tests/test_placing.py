"""Points 101, 102, 106 and 108."""

import copy
import unittest
from itertools import combinations
from random import Random

from samples import TASK, kept_by_trying, placements_of, some_problem

from chartspec.chains import reason_of
from chartspec.judging import flaw
from chartspec.placing import kept_labels, place_labels, together

AREA = (0, 0, 30, 20)


def problem_of(*labels, area=AREA, obstacles=()):
    return (area, obstacles, labels)


class TogetherTest(unittest.TestCase):
    def test_the_example(self):
        self.assertEqual(together(TASK, (0, 2)), (1, 0))
        self.assertIsNone(together(TASK, (0, 1, 2)))
        self.assertEqual(together(TASK, (0, 1)), (0, 1))

    def test_no_labels(self):
        self.assertEqual(together(TASK, ()), ())
        self.assertEqual(together(problem_of(), ()), ())
        self.assertEqual(together(problem_of(area=(0, 0, 0, 0)), ()), ())

    def test_one_label(self):
        inner, outer = (0, 0, 5, 5), (28, 0, 5, 5)
        for pair, sides in (((inner, inner), (0,)), ((inner, outer), (0,)), ((outer, inner), (1,)),
                            ((outer, outer), None)):
            self.assertEqual(together(problem_of(pair), (0,)), sides)

    def test_obstacles(self):
        pair = ((0, 0, 5, 5), (10, 0, 5, 5))
        for obstacles, sides in (((), (0,)), (((5, 0, 5, 5),), (0,)), (((4, 4, 1, 1),), (1,)),
                                 (((4, 4, 7, 1),), None), (((4, 4, 7, 0),), (0,))):
            self.assertEqual(together(problem_of(pair, obstacles=obstacles), (0,)), sides)

    def test_rectangles_that_touch(self):
        same = [((5 * k, 0, 5, 7),) * 2 for k in range(6)]
        self.assertEqual(together(problem_of(*same), tuple(range(6))), (0,) * 6)

    def test_equal_rectangles(self):
        same = ((3, 3, 5, 5),) * 2
        self.assertIsNone(together(problem_of(same, same), (0, 1)))
        self.assertEqual(together(problem_of(same, ((3, 3, 5, 5), (8, 3, 5, 5))), (0, 1)), (0, 1))

    def test_empty_rectangles(self):
        flat = ((3, 3, 5, 0), (3, 3, 0, 5))
        self.assertEqual(together(problem_of(flat, flat, ((0, 0, 30, 20),) * 2), (0, 1, 2)), (0, 0, 0))
        self.assertEqual(together(problem_of(((40, 3, 0, 5), (30, 3, 0, 5))), (0,)), (1,))

    def test_a_later_label_can_change_the_side_of_an_earlier_one(self):
        problem = problem_of(((0, 0, 5, 5), (10, 0, 5, 5)), ((0, 0, 5, 5), (4, 4, 5, 5)))
        self.assertEqual(together(problem, (0,)), (0,))
        self.assertEqual(together(problem, (0, 1)), (1, 0))

    def test_some_of_the_labels(self):
        problem = problem_of(*[((0, 0, 5, 5), (28, 0, 5, 5))] * 3, ((0, 0, 5, 5), (5, 0, 5, 5)))
        for among in ((0, 3), (1, 3), (2, 3)):
            self.assertEqual(together(problem, among), (0, 1))
        self.assertIsNone(together(problem, (1, 2)))

    def test_many_problems(self):
        random = Random(101)
        for _ in range(200):
            problem = some_problem(random, 5)
            kept = copy.deepcopy(problem)
            for many in range(6):
                for among in combinations(range(5), many):
                    expected = placements_of(problem, among)
                    # The sides of 102 are the first ones in ascending order: 0 wherever the sides before allow it.
                    self.assertEqual(together(problem, among), expected[0] if expected else None, (problem, among))
            self.assertEqual(problem, kept)


class KeptLabelsTest(unittest.TestCase):
    def test_the_example(self):
        self.assertEqual(kept_labels(TASK), (0, 1))

    def test_no_labels(self):
        self.assertEqual(kept_labels(problem_of()), ())

    def test_labels_that_are_left_out_while_a_later_one_is_kept(self):
        same, free = ((3, 3, 5, 5),) * 2, ((20, 3, 5, 5), (20, 10, 5, 5))
        self.assertEqual(kept_labels(problem_of(same, same, free, same, free)), (0, 2, 4))
        self.assertEqual(kept_labels(problem_of(((28, 0, 5, 5),) * 2, same)), (1,))

    def test_no_label_can_be_placed(self):
        self.assertEqual(kept_labels(problem_of(*[((3, 3, 5, 5),) * 2] * 3, obstacles=((0, 0, 30, 20),))), ())

    def test_the_first_ones_by_priority_are_kept_not_the_most(self):
        problem = problem_of(((0, 0, 15, 5),) * 2, ((0, 0, 5, 5),) * 2, ((5, 0, 5, 5),) * 2, ((10, 0, 5, 5),) * 2)
        self.assertEqual(kept_labels(problem), (0,))

    def test_many_problems(self):
        random = Random(102)
        for _ in range(200):
            problem = some_problem(random, random.randrange(8))
            self.assertEqual(kept_labels(problem), kept_by_trying(problem), problem)


class PlaceLabelsTest(unittest.TestCase):
    def test_the_example(self):
        expected = (0, 1, (((2, 0), (0, 1), (1, 0), (2, 1)), ((2, 1), (0, 0), (2, 0))))
        self.assertEqual(place_labels(TASK), expected)

    def test_no_labels(self):
        self.assertEqual(place_labels(problem_of()), ())

    def test_all_kept(self):
        self.assertEqual(place_labels(problem_of(((0, 0, 5, 5),) * 2, ((0, 0, 5, 5), (9, 9, 5, 5)))), (0, 1))

    def test_none_kept(self):
        reasons = tuple((((k, 0), (k, 1)), ((k, 1), (k, 0))) for k in range(2))
        self.assertEqual(place_labels(problem_of(*[((3, 3, 5, 5),) * 2] * 2, obstacles=((4, 4, 1, 1),))), reasons)

    def test_a_reason_looks_at_the_labels_that_were_kept_before_only(self):
        same = ((3, 3, 5, 5),) * 2
        problem = problem_of(((20, 3, 5, 5),) * 2, same, same, ((3, 3, 2, 2), (10, 10, 2, 2)))
        expected = (0, 0, (((2, 0), (1, 0), (2, 1)), ((2, 1), (1, 0), (2, 0))), 1)
        self.assertEqual(place_labels(problem), expected)

    def test_the_sides_are_those_of_all_kept_labels_together(self):
        problem = problem_of(((0, 0, 5, 5), (10, 0, 5, 5)), ((12, 0, 9, 5), (0, 0, 9, 5)), ((0, 0, 5, 5),) * 2)
        self.assertEqual(together(problem, (0, 1)), (0, 0))
        self.assertEqual(place_labels(problem)[:2], (0, 0))
        free = problem_of(*problem[2][:1], ((0, 0, 5, 5), (1, 1, 5, 5)))
        self.assertEqual(place_labels(free), (1, 0))

    def test_many_problems(self):
        random = Random(107)
        for _ in range(200):
            problem = some_problem(random, random.randrange(8))
            before = copy.deepcopy(problem)
            placement = place_labels(problem)
            kept = kept_by_trying(problem)
            sides = placements_of(problem, kept)[0]
            self.assertEqual(len(placement), len(problem[2]))
            self.assertEqual(tuple(placement[label] for label in kept), sides)
            for label, place in enumerate(placement):
                if label not in kept:
                    among = tuple(other for other in kept if other < label)
                    self.assertEqual(place, reason_of(problem, among, label))
            self.assertIsNone(flaw(problem, placement))
            self.assertEqual(problem, before)

    def test_16_labels_and_400_obstacles(self):
        random = Random(108)
        area = (0, 0, 300, 300)
        obstacles = tuple((random.randrange(300), random.randrange(300), 2, 2) for _ in range(400))
        labels = tuple(tuple((random.randrange(60), random.randrange(60), 20, 7) for _ in range(2)) for _ in range(16))
        for problem in ((area, (), labels), (area, obstacles, labels)):
            placement = place_labels(problem)
            self.assertEqual(len(placement), 16)
            self.assertIsNone(flaw(problem, placement))
            self.assertTrue(0 < len(kept_labels(problem)) < 16)


if __name__ == "__main__":
    unittest.main()
