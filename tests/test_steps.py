"""Point 202."""

import unittest
from fractions import Fraction
from random import Random

from samples import pair

from chartspec.steps import multiples, round_step, step_after

# The round steps from 10^-9 to 5 * 10^9, in ascending order.
STEPS = [digit * Fraction(10) ** exponent for exponent in range(-9, 10) for digit in (1, 2, 5)]


class RoundStepTest(unittest.TestCase):
    def test_ordinary_fractions(self):
        for fraction, step in (((3, 10), (1, 2)), ((3, 1), (5, 1)), ((6, 1), (10, 1)), ((11, 10), (2, 1)),
                               ((1, 3), (1, 2)), ((2, 3), (1, 1)), ((1, 7), (1, 5)), ((1, 11), (1, 10)),
                               ((99, 1), (100, 1)), ((101, 1), (200, 1)), ((201, 1), (500, 1)), ((1, 30), (1, 20)),
                               ((1, 51), (1, 50)), ((22, 7), (5, 1))):
            self.assertEqual(round_step(fraction), step)

    def test_a_fraction_that_is_a_round_step_itself(self):
        for step in STEPS:
            self.assertEqual(round_step(pair(step)), pair(step))

    def test_fractions_hardly_beside_a_round_step(self):
        little = Fraction(1, 10 ** 20)
        for step, following in zip(STEPS, STEPS[1:]):
            self.assertEqual(round_step(pair(step - little)), pair(step))
            self.assertEqual(round_step(pair(step + little)), pair(following))

    def test_many_fractions(self):
        random = Random(202)
        for _ in range(2000):
            fraction = Fraction(random.randint(1, 10 ** random.randrange(1, 9)),
                                random.randint(1, 10 ** random.randrange(1, 9)))
            self.assertEqual(round_step(pair(fraction)), pair(min(step for step in STEPS if step >= fraction)))

    def test_large_and_small_fractions(self):
        large = 10 ** 60 - 1
        self.assertEqual(round_step((large, 1)), (10 ** 60, 1))
        self.assertEqual(round_step((1, large)), (1, 5 * 10 ** 59))
        self.assertEqual(round_step((large, large - 1)), (2, 1))
        self.assertEqual(round_step((large - 1, large)), (1, 1))


class StepAfterTest(unittest.TestCase):
    def test_the_round_step_after_each(self):
        for step, following in zip(STEPS, STEPS[1:]):
            self.assertEqual(step_after(pair(step)), pair(following))

    def test_across_one(self):
        step = (1, 100)
        found = []
        for _ in range(12):
            found.append(step)
            step = step_after(step)
        self.assertEqual(found, [(1, 100), (1, 50), (1, 20), (1, 10), (1, 5), (1, 2), (1, 1), (2, 1), (5, 1), (10, 1),
                                 (20, 1), (50, 1)])

    def test_large_and_small_steps(self):
        self.assertEqual(step_after((2 * 10 ** 50, 1)), (5 * 10 ** 50, 1))
        self.assertEqual(step_after((1, 5 * 10 ** 50)), (1, 2 * 10 ** 50))
        self.assertEqual(step_after((1, 2 * 10 ** 50)), (1, 10 ** 50))


class MultiplesTest(unittest.TestCase):
    def test_both_ends_are_included(self):
        self.assertEqual(multiples((1, 2), (-1, 1), (1, 1)), ((-1, 1), (-1, 2), (0, 1), (1, 2), (1, 1)))
        self.assertEqual(multiples((5, 1), (0, 1), (10, 1)), ((0, 1), (5, 1), (10, 1)))

    def test_ends_that_are_no_multiples(self):
        self.assertEqual(multiples((1, 2), (-3, 4), (1, 1)), ((-1, 2), (0, 1), (1, 2), (1, 1)))
        self.assertEqual(multiples((2, 1), (-5, 1), (5, 2)), ((-4, 1), (-2, 1), (0, 1), (2, 1)))

    def test_a_domain_without_any(self):
        self.assertEqual(multiples((10, 1), (1, 1), (9, 1)), ())
        self.assertEqual(multiples((1, 1), (1, 3), (2, 3)), ())
        self.assertEqual(multiples((1, 1), (-2, 3), (-1, 3)), ())

    def test_a_single_one(self):
        self.assertEqual(multiples((10, 1), (1, 1), (10, 1)), ((10, 1),))
        self.assertEqual(multiples((10, 1), (-1, 1), (1, 1)), ((0, 1),))
        self.assertEqual(multiples((1, 1), (3, 1), (3, 1)), ((3, 1),))

    def test_steps_that_are_not_round(self):
        self.assertEqual(multiples((2, 3), (0, 1), (2, 1)), ((0, 1), (2, 3), (4, 3), (2, 1)))
        self.assertEqual(multiples((3, 1), (-7, 2), (7, 1)), ((-3, 1), (0, 1), (3, 1), (6, 1)))

    def test_a_hundred(self):
        self.assertEqual(multiples((1, 10), (-5, 1), (49, 10)), tuple(pair(Fraction(n, 10)) for n in range(-50, 50)))


if __name__ == "__main__":
    unittest.main()
