"""Points 200 and 201."""

import copy
import unittest
from itertools import permutations

from chartspec.fitted import fitted_domain

EDGE = 10 ** 12 - 1


def scale(form, *domain, backwards=False, axis=None):
    return (form, domain, backwards, False, 5, axis)


FIT, ZERO, BAND = scale("linear", "fit"), scale("linear", "zero"), scale("band", "fit")


def whole(*numbers):
    return tuple(None if number is None else (number, 1) for number in numbers)


class LinearTest(unittest.TestCase):
    def test_from_the_least_to_the_greatest(self):
        for cells in permutations(((1, 2), (-3, 1), (10, 1), (9, 1), None)):
            self.assertEqual(fitted_domain(FIT, cells), ((-3, 1), (10, 1)))
        self.assertEqual(fitted_domain(FIT, ((1, 3), (1, 2), (2, 5))), ((1, 3), (1, 2)))

    def test_no_cells(self):
        self.assertEqual(fitted_domain(FIT, ()), ((0, 1), (1, 1)))
        self.assertEqual(fitted_domain(ZERO, ()), ((0, 1), (1, 1)))

    def test_missing_cells_alone(self):
        self.assertEqual(fitted_domain(FIT, (None, None)), ((0, 1), (1, 1)))
        self.assertEqual(fitted_domain(ZERO, (None,)), ((0, 1), (1, 1)))

    def test_equal_numbers(self):
        self.assertEqual(fitted_domain(FIT, whole(7)), whole(7, 8))
        self.assertEqual(fitted_domain(FIT, whole(-7, None, -7)), whole(-7, -6))
        self.assertEqual(fitted_domain(FIT, ((1, 3), (1, 3))), ((1, 3), (4, 3)))
        self.assertEqual(fitted_domain(FIT, whole(0)), whole(0, 1))
        self.assertEqual(fitted_domain(FIT, whole(EDGE)), whole(EDGE, EDGE + 1))

    def test_with_zero(self):
        self.assertEqual(fitted_domain(ZERO, whole(3, 1)), whole(0, 3))
        self.assertEqual(fitted_domain(ZERO, whole(-3, None, -1)), whole(-3, 0))
        self.assertEqual(fitted_domain(ZERO, whole(-3, 2)), whole(-3, 2))
        self.assertEqual(fitted_domain(ZERO, whole(4, 4)), whole(0, 4))
        self.assertEqual(fitted_domain(ZERO, whole(-4)), whole(-4, 0))
        self.assertEqual(fitted_domain(ZERO, whole(0, 0)), whole(0, 1))

    def test_declared(self):
        declared = scale("linear", "from", (-1, 2), (7, 1))
        for cells in ((), (None,), whole(100, -100)):
            self.assertEqual(fitted_domain(declared, cells), ((-1, 2), (7, 1)))

    def test_four_hundred_cells(self):
        cells = tuple((number * 7 % 401, 3) if number * 7 % 401 % 3 else None for number in range(1, 401))
        self.assertEqual(fitted_domain(FIT, cells), ((1, 3), (400, 3)))


class BandTest(unittest.TestCase):
    def test_all_different_cells_in_ascending_order(self):
        for cells in permutations(("b", "ab", "a", None, "b")):
            self.assertEqual(fitted_domain(BAND, cells), ("a", "ab", "b"))
        self.assertEqual(fitted_domain(BAND, ((10, 1), (9, 1), (1, 2), (9, 1))), ((1, 2), (9, 1), (10, 1)))
        self.assertEqual(fitted_domain(BAND, (True, None, False, True)), (False, True))
        self.assertEqual(fitted_domain(BAND, ("",)), ("",))

    def test_no_cells_and_missing_cells_alone(self):
        self.assertEqual(fitted_domain(BAND, ()), ())
        self.assertEqual(fitted_domain(BAND, (None, None)), ())

    def test_declared(self):
        declared = scale("band", "of", ("b", "c", "a"))
        for cells in ((), (None,), ("a", "d")):
            self.assertEqual(fitted_domain(declared, cells), ("b", "c", "a"))

    def test_what_else_a_scale_has_plays_no_role(self):
        self.assertEqual(fitted_domain(scale("band", "fit", backwards=True, axis=("t", True, ("", "", False))),
                                       ("b", "a")), ("a", "b"))
        self.assertEqual(fitted_domain(scale("linear", "fit", backwards=True), whole(2, 1)), whole(1, 2))

    def test_arguments_stay_as_they_are(self):
        cells = ("b", None, "a")
        before = copy.deepcopy((BAND, cells))
        fitted_domain(BAND, cells)
        self.assertEqual((BAND, cells), before)


if __name__ == "__main__":
    unittest.main()
