"""Points 106 to 108."""

import copy
import unittest
from itertools import product
from random import Random

from samples import TASK, is_placement, kept_by_trying, some_problem

from chartspec.chains import is_chain, reason_of
from chartspec.judging import flaw
from chartspec.placing import place_labels

FIRST = ((2, 0), (0, 1), (1, 0), (2, 1))
SECOND = ((2, 1), (0, 0), (2, 0))


class FlawTest(unittest.TestCase):
    def check(self, expected, placement, problem=TASK):
        kept = copy.deepcopy((problem, placement))
        self.assertEqual(flaw(problem, placement), expected, placement)
        self.assertEqual((problem, placement), kept)

    def test_the_example(self):
        self.check(None, place_labels(TASK))
        self.check((2, "overlap"), (0, 1, 1))
        self.check((None, "places"), (0, 1))

    def test_too_few_or_too_many_places(self):
        for placement in ((), (0,), (0, 1), (0, 1, (FIRST, SECOND), 0), (0, 0, 0, 0), (((), ()),)):
            self.check((None, "places"), placement)
        self.check((None, "places"), (0,), ((0, 0, 9, 9), (), ()))
        self.check(None, (), ((0, 0, 9, 9), (), ()))

    def test_not_free(self):
        problem = ((0, 0, 20, 20), ((9, 9, 2, 2),), (((0, 0, 5, 5), (18, 0, 5, 5)), ((6, 6, 5, 5), (10, 0, 5, 5))))
        self.check(None, (0, 1), problem)
        self.check((0, "not free"), (1, 1), problem)
        self.check((1, "not free"), (0, 0), problem)
        self.check((0, "not free"), (1, 0), problem)

    def test_overlap(self):
        self.check((1, "overlap"), (0, 0, 0))
        self.check((1, "overlap"), (1, 1, 0))
        self.check((2, "overlap"), (0, 1, 0))
        self.check((2, "overlap"), (1, 0, 0))
        self.check((2, "overlap"), (1, 0, 1))

    def test_rectangles_that_touch_and_empty_ones(self):
        problem = ((0, 0, 20, 20), (), (((0, 0, 5, 5),) * 2, ((5, 0, 5, 5), (0, 5, 5, 5)), ((1, 1, 0, 3), (1, 1, 3, 0))))
        for placement in product((0, 1), repeat=3):
            self.check(None, placement, problem)

    def test_not_free_comes_before_overlap(self):
        problem = ((0, 0, 20, 20), ((3, 3, 1, 1),), (((0, 0, 3, 3),) * 2, ((0, 0, 4, 4),) * 2))
        self.check((1, "not free"), (0, 0), problem)

    def test_only_labels_that_are_placed_before_count(self):
        problem = ((0, 0, 20, 20), (), (((0, 0, 5, 5),) * 2, ((0, 0, 5, 5), (9, 0, 5, 5)), ((0, 0, 5, 5), (9, 9, 5, 5))))
        self.check((1, "overlap"), (0, 0, 0), problem)
        self.check((1, "first chain"), (0, ((), ()), 0), problem)
        self.check(None, (0, 1, 1), problem)

    def test_the_sides_need_not_be_the_first_ones(self):
        problem = ((0, 0, 20, 20), (), (((0, 0, 5, 5), (0, 9, 5, 5)), ((9, 0, 5, 5), (9, 9, 5, 5))))
        for placement in product((0, 1), repeat=2):
            self.check(None, placement, problem)
        self.check(None, (1, 0, (FIRST, SECOND)))

    def test_the_chains_need_not_be_the_shortest_ones(self):
        long_first = FIRST[:2] + ((1, 0), (0, 1)) * 30 + FIRST[2:]
        self.assertEqual(len(long_first), 64)
        self.check(None, (0, 1, (long_first, SECOND)))
        long_second = ((2, 1), (1, 0), (2, 1), (0, 0), (2, 0))
        self.check(None, (0, 1, (FIRST, long_second)))

    def test_first_chain(self):
        wrong = ((), ((2, 0),), ((2, 1),), ((2, 0), (2, 1)), FIRST[1:], FIRST[:-1], FIRST[:2] + FIRST[3:], SECOND,
                 ((2, 0), (3, 0), (2, 1)), ((2, 0), (99, 1), (2, 1)), ((0, 1), (1, 0)), FIRST + FIRST)
        for chain in wrong:
            self.check((2, "first chain"), (0, 1, (chain, SECOND)))

    def test_second_chain(self):
        wrong = ((), ((2, 0),), ((2, 1),), ((2, 1), (2, 0)), SECOND[1:], SECOND[:-1], FIRST,
                 ((2, 1), (3, 0), (2, 0)), ((2, 1), (99, 1), (2, 0)), ((0, 0),), SECOND + SECOND)
        for chain in wrong:
            self.check((2, "second chain"), (0, 1, (FIRST, chain)))

    def test_the_first_chain_comes_before_the_second_one(self):
        self.check((2, "first chain"), (0, 1, ((), ())))
        self.check((2, "first chain"), (0, 1, (SECOND, FIRST)))

    def test_chains_over_labels_that_are_not_placed_before(self):
        same = ((3, 3, 5, 5),) * 2
        problem = ((0, 0, 20, 20), (), (same, same, same, ((9, 9, 5, 5),) * 2))

        def reason(label, over):
            return (((label, 0), (over, 0), (label, 1)), ((label, 1), (over, 0), (label, 0)))

        self.check(None, (0, reason(1, 0), reason(2, 0), 0), problem)
        self.check((2, "first chain"), (0, reason(1, 0), reason(2, 1), 0), problem)
        self.check((0, "first chain"), (reason(0, 1), 0, reason(2, 1), 0), problem)
        self.check((1, "first chain"), (0, reason(1, 2), reason(2, 0), 0), problem)
        self.check((1, "second chain"), (0, (reason(1, 0)[0], reason(1, 2)[1]), reason(2, 0), 0), problem)

    def test_label_by_label(self):
        self.check((1, "overlap"), (0, 0, ((), ())))
        self.check((0, "first chain"), (((), ()), 0, 0))
        self.check((1, "first chain"), (0, ((), ()), ((), ())))

    def test_a_label_that_could_be_placed_has_no_reason(self):
        for first, second in product((FIRST, SECOND, (), ((0, 0), (0, 1))), repeat=2):
            self.check((0, "first chain"), ((first, second), 0, 0))

    def test_a_label_that_is_never_free(self):
        problem = ((0, 0, 20, 20), (), (((18, 0, 5, 5), (0, 18, 5, 5)), ((0, 0, 5, 5),) * 2))
        self.check(None, ((((0, 0), (0, 1)), ((0, 1), (0, 0))), 0), problem)
        self.check((0, "not free"), (0, 0), problem)


class KeptTest(unittest.TestCase):
    """Point 107, and the words of 106 once more."""

    def expected(self, problem, placement):
        placed = []
        for label, place in enumerate(placement):
            labels = [number for number, _ in placed] + [label]
            if place in (0, 1):
                if not is_placement(problem, (label,), (place,)):
                    return (label, "not free")
                placed.append((label, place))
                if not is_placement(problem, labels, [side for _, side in placed]):
                    return (label, "overlap")
            else:
                for chain, side, word in ((place[0], 0, "first chain"), (place[1], 1, "second chain")):
                    if not is_chain(problem, tuple(labels), chain, (label, side), (label, 1 - side)):
                        return (label, word)
        return None

    def test_a_placement_without_a_flaw_places_exactly_the_kept_labels(self):
        random = Random(107)
        without = 0
        for _ in range(150):
            problem = some_problem(random, 4)
            kept = kept_by_trying(problem)
            reasons = {label: [reason_of(problem, among, label) or ((), ())
                               for among in ((), tuple(other for other in kept if other < label))]
                       for label in range(4)}
            for placement in product(*[(0, 1, *reasons[label]) for label in range(4)]):
                found = flaw(problem, placement)
                self.assertEqual(found, self.expected(problem, placement), (problem, placement))
                if found is None:
                    without += 1
                    self.assertEqual(tuple(label for label in range(4) if placement[label] in (0, 1)), kept)
        self.assertGreater(without, 150)


if __name__ == "__main__":
    unittest.main()
