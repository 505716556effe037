"""Points 100 and 103."""

import copy
import unittest
from itertools import product
from random import Random

from samples import TASK, free_choice, placements_of, share_pixels, some_problem

from chartspec.choices import chosen_rectangle, forces, is_free


def problem_of(*labels, area=(0, 0, 20, 10), obstacles=()):
    return (area, obstacles, labels)


def alone(place, *, area=(0, 0, 20, 10), obstacles=()):
    """A problem with one label that has the same place twice."""
    return problem_of((place, place), area=area, obstacles=obstacles)


class ChosenRectangleTest(unittest.TestCase):
    def test_side_0_is_the_first_one_side_1_the_second_one(self):
        self.assertEqual(chosen_rectangle(TASK, (0, 0)), (0, 0, 10, 7))
        self.assertEqual(chosen_rectangle(TASK, (0, 1)), (0, 10, 10, 7))
        self.assertEqual(chosen_rectangle(TASK, (2, 0)), (8, 0, 10, 7))
        self.assertEqual(chosen_rectangle(TASK, (2, 1)), (8, 5, 10, 7))

    def test_equal_and_empty_rectangles(self):
        for place in ((1, 1, 3, 3), (1, 1, 0, 3)):
            self.assertEqual(chosen_rectangle(alone(place), (0, 0)), place)
            self.assertEqual(chosen_rectangle(alone(place), (0, 1)), place)


class FreeTest(unittest.TestCase):
    def check(self, free, place, **parts):
        for side in (0, 1):
            self.assertIs(is_free(alone(place, **parts), (0, side)), free, (place, parts))

    def test_inside_the_area(self):
        self.check(True, (3, 3, 5, 5))
        self.check(True, (0, 0, 20, 10))
        self.check(False, (-1, 0, 5, 5))
        self.check(False, (0, -1, 5, 5))
        self.check(False, (16, 0, 5, 5))
        self.check(False, (0, 6, 5, 5))
        self.check(False, (50, 50, 5, 5))

    def test_the_area_need_not_begin_at_the_corner(self):
        self.check(True, (-8, -9, 2, 2), area=(-8, -9, 2, 2))
        self.check(False, (-8, -9, 2, 2), area=(-7, -9, 2, 2))

    def test_obstacles(self):
        self.check(False, (3, 3, 5, 5), obstacles=((7, 7, 4, 4),))
        self.check(False, (3, 3, 5, 5), obstacles=((0, 0, 1, 1), (4, 4, 1, 1)))
        self.check(True, (3, 3, 5, 5), obstacles=((0, 0, 3, 10), (8, 0, 3, 10), (0, 0, 20, 3), (0, 8, 20, 2)))
        self.check(True, (3, 3, 5, 5), obstacles=((4, 4, 0, 2), (4, 4, 2, 0)))

    def test_an_obstacle_may_lie_outside_the_area(self):
        self.check(True, (3, 3, 5, 5), obstacles=((50, 50, 5, 5),))

    def test_empty_rectangles(self):
        obstacles = ((0, 0, 20, 10),)
        for place in ((3, 3, 0, 5), (3, 3, 5, 0), (0, 0, 0, 0), (20, 10, 0, 0)):
            self.check(True, place, obstacles=obstacles)
        for place in ((21, 3, 0, 5), (3, 11, 5, 0), (-1, 0, 0, 0)):
            self.check(False, place, obstacles=obstacles)

    def test_an_area_without_pixels(self):
        self.check(False, (0, 0, 1, 1), area=(0, 0, 0, 10))
        self.check(True, (0, 0, 0, 3), area=(0, 0, 0, 10))

    def test_each_side_by_itself(self):
        problem = problem_of(((0, 0, 5, 5), (18, 0, 5, 5)), ((18, 0, 5, 5), (0, 0, 5, 5)))
        found = [is_free(problem, choice) for choice in product((0, 1), (0, 1))]
        self.assertEqual(found, [True, False, False, True])

    def test_other_labels_play_no_part(self):
        problem = problem_of(((0, 0, 5, 5), (0, 0, 5, 5)), ((0, 0, 5, 5), (0, 0, 5, 5)))
        self.assertIs(is_free(problem, (1, 0)), True)


class ForcesTest(unittest.TestCase):
    def test_different_labels(self):
        self.assertIs(forces(TASK, (2, 0), (0, 1)), True)
        self.assertIs(forces(TASK, (0, 1), (1, 0)), True)
        self.assertIs(forces(TASK, (1, 0), (2, 1)), True)
        self.assertIs(forces(TASK, (2, 0), (0, 0)), False)
        self.assertIs(forces(TASK, (0, 1), (1, 1)), False)
        self.assertIs(forces(TASK, (0, 0), (1, 0)), False)

    def test_rectangles_that_touch_do_not_overlap(self):
        problem = problem_of(((0, 0, 5, 5), (10, 0, 5, 5)), ((15, 5, 5, 5), (5, 0, 5, 5)))
        for choice, other in product(product((0,), (0, 1)), product((1,), (0, 1))):
            self.assertIs(forces(problem, choice, other), False)
            self.assertIs(forces(problem, other, choice), False)

    def test_empty_rectangles_overlap_nothing(self):
        problem = problem_of(((0, 0, 5, 5), (1, 1, 0, 3)), ((0, 0, 5, 5), (1, 1, 3, 0)))
        self.assertIs(forces(problem, (0, 0), (1, 1)), True)
        self.assertIs(forces(problem, (0, 1), (1, 1)), False)
        self.assertIs(forces(problem, (0, 0), (1, 0)), False)

    def test_two_choices_of_one_label(self):
        problem = problem_of(((0, 0, 5, 5), (18, 0, 5, 5)), ((1, 1, 2, 2), (6, 6, 2, 2)), obstacles=((7, 7, 1, 1),))
        self.assertIs(forces(problem, (0, 1), (0, 0)), True)
        self.assertIs(forces(problem, (0, 0), (0, 1)), False)
        self.assertIs(forces(problem, (1, 1), (1, 0)), True)
        self.assertIs(forces(problem, (1, 0), (1, 1)), False)

    def test_two_places_of_one_label_that_overlap(self):
        problem = problem_of(((0, 0, 5, 5), (1, 1, 5, 5)), ((2, 2, 5, 5), (2, 2, 5, 5)))
        self.assertIs(forces(problem, (0, 0), (0, 1)), False)
        self.assertIs(forces(problem, (1, 0), (1, 1)), False)

    def test_a_choice_does_not_force_itself(self):
        beyond = problem_of(((18, 0, 5, 5), (18, 0, 5, 5)), ((0, 0, 5, 5), (0, 0, 5, 5)))
        for choice in product((0, 1), (0, 1)):
            self.assertIs(forces(beyond, choice, choice), False)

    def test_a_choice_of_another_label_need_not_be_free(self):
        problem = problem_of(((18, 0, 5, 5), (0, 0, 1, 1)), ((18, 0, 5, 5), (0, 5, 1, 1)))
        self.assertIs(forces(problem, (0, 0), (1, 1)), True)
        self.assertIs(forces(problem, (0, 0), (1, 0)), False)

    def test_many_problems(self):
        random = Random(103)
        for _ in range(100):
            problem = some_problem(random, 3)
            kept = copy.deepcopy(problem)
            for choice, other in product(product(range(3), (0, 1)), repeat=2):
                places = problem[2]
                if choice[0] == other[0]:
                    expected = choice != other and not free_choice(problem, choice)
                else:
                    expected = share_pixels(places[choice[0]][choice[1]], places[other[0]][1 - other[1]])
                self.assertIs(forces(problem, choice, other), expected, (problem, choice, other))
                self.assertIs(is_free(problem, choice), free_choice(problem, choice), (problem, choice))
            self.assertEqual(problem, kept)

    def test_a_placement_with_a_choice_has_the_choices_that_it_forces(self):
        random = Random(104)
        for _ in range(100):
            problem = some_problem(random, 3)
            for sides in placements_of(problem, (0, 1, 2)):
                made = list(enumerate(sides))
                for choice, other in product(made, product(range(3), (0, 1))):
                    if forces(problem, choice, other):
                        self.assertIn(other, made, problem)


if __name__ == "__main__":
    unittest.main()
