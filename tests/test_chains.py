"""Points 104 and 105."""

import copy
import unittest
from itertools import product
from random import Random

from samples import TASK, placements_of, some_problem

from chartspec.chains import is_chain, reason_of, shortest_chain
from chartspec.choices import forces

AREA = (0, 0, 100, 100)
# Three labels with the same place twice: each choice forces all choices of the other labels.
CROWD = (AREA, (), (((0, 0, 5, 5),) * 2,) * 3)


def choices_of(among):
    return list(product(among, (0, 1)))


def simple_chains(problem, among, start, goal):
    """All chains from start to goal over the labels of among that have no choice twice."""
    def longer(chain):
        if chain[-1] == goal:
            yield chain
        else:
            for choice in choices_of(among):
                if choice not in chain and forces(problem, chain[-1], choice):
                    yield from longer(chain + (choice,))

    return list(longer((start,)))


def shortest_by_trying(problem, among, start, goal):
    chains = simple_chains(problem, among, start, goal)
    return min(chains, key=lambda chain: (len(chain), chain), default=None)


class IsChainTest(unittest.TestCase):
    def check(self, expected, chain, start, goal, *, problem=TASK, among=(0, 1, 2)):
        self.assertIs(is_chain(problem, among, chain, start, goal), expected, chain)

    def test_the_example(self):
        self.check(True, ((2, 0), (0, 1), (1, 0), (2, 1)), (2, 0), (2, 1))
        self.check(True, ((2, 1), (0, 0), (2, 0)), (2, 1), (2, 0))

    def test_a_chain_that_is_not_the_shortest_one(self):
        self.check(True, ((2, 1), (1, 0), (0, 1), (1, 0), (2, 1), (0, 0), (2, 0)), (2, 1), (2, 0))
        self.check(True, ((2, 1), (0, 0), (2, 0), (0, 1), (2, 0)), (2, 1), (2, 0), problem=CROWD)

    def test_a_choice_that_does_not_force_the_next_one(self):
        self.check(False, ((2, 0), (1, 0), (2, 1)), (2, 0), (2, 1))
        self.check(False, ((2, 0), (2, 1)), (2, 0), (2, 1))
        self.check(False, ((2, 0), (0, 1), (1, 1), (2, 1)), (2, 0), (2, 1))

    def test_a_chain_that_begins_or_ends_elsewhere(self):
        chain = ((2, 0), (0, 1), (1, 0), (2, 1))
        self.check(False, chain, (2, 0), (1, 0))
        self.check(False, chain, (0, 1), (2, 1))
        self.check(False, chain[1:], (2, 0), (2, 1))
        self.check(False, chain[:-1], (2, 0), (2, 1))
        self.check(True, chain[1:-1], (0, 1), (1, 0))

    def test_chains_of_one_choice(self):
        for choice in choices_of((0, 1, 2)):
            self.check(True, (choice,), choice, choice)
        self.check(False, ((2, 0),), (2, 0), (2, 1))
        self.check(False, ((2, 1),), (2, 0), (2, 1))

    def test_from_a_choice_to_itself(self):
        self.check(True, ((0, 1), (1, 0), (0, 1)), (0, 1), (0, 1))
        self.check(False, ((0, 1), (0, 1)), (0, 1), (0, 1))

    def test_the_empty_chain(self):
        self.check(False, (), (2, 0), (2, 1))
        self.check(False, (), (2, 0), (2, 0))

    def test_labels_that_are_not_among_the_labels(self):
        chain = ((2, 0), (0, 1), (1, 0), (2, 1))
        self.check(False, chain, (2, 0), (2, 1), among=(0, 2))
        self.check(False, chain, (2, 0), (2, 1), among=(2,))
        self.check(True, ((2, 1), (0, 0), (2, 0)), (2, 1), (2, 0), among=(0, 2))

    def test_labels_that_the_problem_does_not_have(self):
        for label in (3, 99):
            self.check(False, ((2, 0), (label, 1), (2, 1)), (2, 0), (2, 1))
            self.check(False, ((label, 1), (2, 1)), (2, 0), (2, 1))
            self.check(False, ((2, 0), (label, 0)), (2, 0), (2, 1))

    def test_over_a_choice_that_is_not_free(self):
        problem = (AREA, ((0, 0, 1, 1),), (((0, 0, 5, 5), (90, 90, 5, 5)),))
        self.check(True, ((0, 0), (0, 1)), (0, 0), (0, 1), problem=problem, among=(0,))
        self.check(False, ((0, 1), (0, 0)), (0, 1), (0, 0), problem=problem, among=(0,))

    def test_64_choices(self):
        chain = ((0, 1), (1, 0)) * 32
        self.check(True, chain, (0, 1), (1, 0))
        self.check(False, chain[:-2] + ((0, 0), (1, 0)), (0, 1), (1, 0))


class ShortestChainTest(unittest.TestCase):
    def test_the_example(self):
        self.assertEqual(shortest_chain(TASK, (0, 1, 2), (2, 0), (2, 1)), ((2, 0), (0, 1), (1, 0), (2, 1)))
        self.assertEqual(shortest_chain(TASK, (0, 1, 2), (2, 1), (2, 0)), ((2, 1), (0, 0), (2, 0)))

    def test_from_a_choice_to_itself(self):
        for choice in choices_of((0, 1, 2)):
            self.assertEqual(shortest_chain(TASK, (0, 1, 2), choice, choice), (choice,))
            self.assertEqual(shortest_chain(TASK, choice[:1], choice, choice), (choice,))

    def test_no_chain(self):
        self.assertIsNone(shortest_chain(TASK, (0, 2), (2, 0), (2, 1)))
        self.assertIsNone(shortest_chain(TASK, (2,), (2, 0), (2, 1)))
        self.assertIsNone(shortest_chain(TASK, (0, 1), (0, 0), (1, 0)))

    def test_over_the_labels_alone(self):
        self.assertEqual(shortest_chain(TASK, (0, 2), (2, 1), (2, 0)), ((2, 1), (0, 0), (2, 0)))
        self.assertEqual(shortest_chain(TASK, (1, 2), (2, 0), (2, 0)), ((2, 0),))

    def test_a_choice_that_is_not_free(self):
        problem = (AREA, (), (((98, 0, 5, 5), (0, 98, 5, 5)), ((0, 0, 1, 1), (98, 0, 5, 5))))
        self.assertEqual(shortest_chain(problem, (0, 1), (0, 0), (0, 1)), ((0, 0), (0, 1)))
        self.assertEqual(shortest_chain(problem, (0, 1), (0, 1), (0, 0)), ((0, 1), (0, 0)))
        self.assertEqual(shortest_chain(problem, (0, 1), (0, 1), (1, 0)), ((0, 1), (0, 0), (1, 0)))

    def test_the_first_of_several_shortest_ones(self):
        self.assertEqual(shortest_chain(CROWD, (0, 1, 2), (2, 0), (2, 1)), ((2, 0), (0, 0), (2, 1)))
        self.assertEqual(shortest_chain(CROWD, (1, 2), (2, 0), (2, 1)), ((2, 0), (1, 0), (2, 1)))
        self.assertEqual(shortest_chain(CROWD, (0, 1, 2), (0, 1), (0, 0)), ((0, 1), (1, 0), (0, 0)))

    def test_the_first_difference_decides(self):
        # From label 0 to label 3 there is a way over 1, then 5, and one over 2, then 4.
        problem = (AREA, (), (
            ((20, 0, 3, 3), (10, 0, 23, 1)), ((10, 0, 3, 3), (0, 1, 3, 1)), ((30, 0, 3, 3), (40, 1, 3, 1)),
            ((0, 50, 60, 3), (80, 0, 1, 1)), ((40, 0, 3, 3), (40, 50, 1, 1)), ((0, 0, 3, 3), (0, 50, 1, 1))))
        self.assertEqual(simple_chains(problem, tuple(range(6)), (0, 1), (3, 1)), [
            ((0, 1), (1, 1), (5, 1), (3, 1)), ((0, 1), (2, 1), (4, 1), (3, 1))])
        self.assertEqual(shortest_chain(problem, tuple(range(6)), (0, 1), (3, 1)), ((0, 1), (1, 1), (5, 1), (3, 1)))

    def test_many_problems(self):
        random = Random(105)
        for _ in range(120):
            problem = some_problem(random, 4)
            kept = copy.deepcopy(problem)
            for among in ((0, 1, 2, 3), (0, 2, 3), (1, 3), (2,)):
                for start, goal in product(choices_of(among), repeat=2):
                    expected = shortest_by_trying(problem, among, start, goal)
                    found = shortest_chain(problem, among, start, goal)
                    self.assertEqual(found, expected, (problem, among, start, goal))
                    self.assertTrue(found is None or is_chain(problem, among, found, start, goal))
            self.assertEqual(problem, kept)


class ReasonTest(unittest.TestCase):
    def test_the_example(self):
        self.assertEqual(reason_of(TASK, (0, 1), 2), (((2, 0), (0, 1), (1, 0), (2, 1)), ((2, 1), (0, 0), (2, 0))))

    def test_no_reason(self):
        self.assertIsNone(reason_of(TASK, (0,), 2))
        self.assertIsNone(reason_of(TASK, (0,), 1))
        self.assertIsNone(reason_of(TASK, (1,), 2))

    def test_a_label_by_itself(self):
        beyond = (AREA, (), (((98, 0, 5, 5), (0, 98, 5, 5)),))
        self.assertEqual(reason_of(beyond, (), 0), (((0, 0), (0, 1)), ((0, 1), (0, 0))))
        for label in range(3):
            self.assertIsNone(reason_of(TASK, (), label))

    def test_one_of_two_choices_is_not_free(self):
        for pair in (((98, 0, 5, 5), (0, 0, 5, 5)), ((0, 0, 5, 5), (98, 0, 5, 5))):
            self.assertIsNone(reason_of((AREA, (), (pair,)), (), 0))

    def test_a_label_with_equal_rectangles(self):
        self.assertEqual(reason_of(CROWD, (0,), 1), (((1, 0), (0, 0), (1, 1)), ((1, 1), (0, 0), (1, 0))))

    def test_labels_with_greater_numbers(self):
        self.assertEqual(reason_of(CROWD, (2,), 1), (((1, 0), (2, 0), (1, 1)), ((1, 1), (2, 0), (1, 0))))
        problem = (AREA, (), CROWD[2] + (((50, 50, 5, 5), (60, 60, 5, 5)),))
        self.assertEqual(reason_of(problem, (1, 3), 2), (((2, 0), (1, 0), (2, 1)), ((2, 1), (1, 0), (2, 0))))

    def test_there_is_one_just_if_the_labels_cannot_be_placed_together(self):
        random = Random(106)
        for _ in range(300):
            problem = some_problem(random, 4)
            for among in ((0, 1, 3), (0, 3), (1,), ()):
                if placements_of(problem, among):
                    found = reason_of(problem, among, 2)
                    labels = tuple(sorted(among + (2,)))
                    expected = (shortest_by_trying(problem, labels, (2, 0), (2, 1)),
                                shortest_by_trying(problem, labels, (2, 1), (2, 0)))
                    self.assertEqual(found is None, bool(placements_of(problem, labels)), (problem, among))
                    self.assertEqual(found, None if None in expected else expected, (problem, among))


if __name__ == "__main__":
    unittest.main()
