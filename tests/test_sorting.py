"""Sorting by comparisons, on which the orders of rows and cells rest."""

import unittest
from random import Random

from chartspec.sorting import arranged


def by_first(a, b):
    return (a[0] > b[0]) - (a[0] < b[0])


class ArrangedTest(unittest.TestCase):
    def test_none_and_one(self):
        self.assertEqual(arranged((), by_first), ())
        self.assertEqual(arranged(((1, 2),), by_first), ((1, 2),))

    def test_equal_items_stay_in_their_order(self):
        random = Random(161)
        for _ in range(300):
            items = tuple((random.randrange(5), at) for at in range(random.randrange(12)))
            self.assertEqual(arranged(items, by_first), tuple(sorted(items)))


if __name__ == "__main__":
    unittest.main()
