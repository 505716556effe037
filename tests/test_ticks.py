"""Points 203, 204, 205 and 207."""

import copy
import unittest
from fractions import Fraction
from itertools import product
from math import ceil, floor
from random import Random

from samples import pair

from chartspec.errors import TooManyCategories
from chartspec.fractions import fraction_text
from chartspec.texts import text_width
from chartspec.ticks import axis_of, candidate

PLAIN = ("", "", False)
SHOWN = ("", False, PLAIN)
STEPS = [digit * Fraction(10) ** exponent for exponent in range(-12, 24) for digit in (1, 2, 5)]


def linear(*domain, ticks=5, axis=SHOWN, backwards=False, clamped=False):
    return ("linear", domain, backwards, clamped, ticks, axis)


def band(*domain, axis=SHOWN, backwards=False, clamped=False):
    return ("band", domain, backwards, clamped, 5, axis)


def whole(*numbers):
    return tuple(None if number is None else (number, 1) for number in numbers)


def expected_candidate(scale, ends, step, length, vertical):
    """A candidate in a plain format, found with Python's own fractions."""
    form, domain, backwards, clamped, _, _ = scale
    low, high = ends
    if domain[0] != "from":
        low, high = floor(low / step) * step, ceil(high / step) * step
    values = [step * number for number in range(ceil(low / step), floor(high / step) + 1)]
    found = []
    for value in values[::-1] if backwards else values:
        place = floor((value - low) * length / (high - low) + Fraction(1, 2))
        found.append((length - place if backwards else place, pair(value), fraction_text(pair(value))))
    spans = [(place - 3, place + 4) if vertical else
             (place - text_width(label) // 2, place - text_width(label) // 2 + text_width(label))
             for place, _, label in found]
    lines = 1
    while any(spans[at + lines][0] - spans[at][1] < (3 if vertical else 6) for at in range(len(spans) - lines)):
        lines += 1
    ruler = (form, (pair(low), pair(high)), length, backwards, clamped)
    return (ruler, tuple(tick + (at % lines,) for at, tick in enumerate(found)))


def expected_axis(scale, ends, length, vertical):
    """The axis of a linear scale with these ends before a candidate is chosen, found by trying all candidates."""
    low, high = ends
    first = min(at for at, step in enumerate(STEPS) if step >= (high - low) / scale[4])
    found = [expected_candidate(scale, ends, step, length, vertical) for step in STEPS[first:first + 9]]
    if scale[5] is None:
        return (found[0][0], ())
    suiting = [(ruler, ticks) for ruler, ticks in found
               if len(ticks) <= scale[4] + 1 and not any(tick[3] for tick in ticks)]
    return (suiting or found[-1:])[0]


class ExampleTest(unittest.TestCase):
    total = ("linear", ("zero",), False, False, 3, ("total", True, PLAIN))

    def test_an_axis_of_sixty_pixels(self):
        ruler, ticks = axis_of(self.total, whole(1, 3), 60, vertical=True)
        self.assertEqual(ruler, ("linear", whole(0, 3), 60, False, False))
        self.assertEqual(ticks, ((0, (0, 1), "0", 0), (20, (1, 1), "1", 0), (40, (2, 1), "2", 0),
                                 (60, (3, 1), "3", 0)))

    def test_an_axis_of_twenty_pixels(self):
        ruler, ticks = axis_of(self.total, whole(1, 3), 20)
        self.assertEqual(ruler, ("linear", whole(0, 4), 20, False, False))
        self.assertEqual(ticks, ((0, (0, 1), "0", 0), (10, (2, 1), "2", 0), (20, (4, 1), "4", 0)))

    def test_the_candidate_that_does_not_suit(self):
        ruler, ticks = candidate(self.total, whole(0, 3), (1, 1), 20)
        self.assertEqual(ruler, ("linear", whole(0, 3), 20, False, False))
        self.assertEqual([tick[0] for tick in ticks], [0, 7, 13, 20])
        self.assertEqual([tick[3] for tick in ticks], [0, 1, 0, 1])

    def test_a_hidden_band_scale(self):
        self.assertEqual(axis_of(("band", ("fit",), False, False, 5, None), ("b", "a", None, "b"), 20),
                         (("band", ("a", "b"), 20, False, False), ()))


class CandidateTest(unittest.TestCase):
    def test_a_fitted_domain_is_widened(self):
        for domain in ("fit", "zero"):
            ruler, ticks = candidate(linear(domain), ((3, 2), (17, 2)), (2, 1), 100)
            self.assertEqual(ruler[1], whole(0, 10))
            self.assertEqual([tick[1] for tick in ticks], list(whole(0, 2, 4, 6, 8, 10)))
        self.assertEqual(candidate(linear("fit"), ((-7, 3), (-1, 3)), (1, 2), 100)[0][1], ((-5, 2), (0, 1)))

    def test_ends_that_are_multiples_stay(self):
        self.assertEqual(candidate(linear("fit"), whole(-4, 6), (2, 1), 100)[0][1], whole(-4, 6))

    def test_a_declared_domain_stays(self):
        ruler, ticks = candidate(linear("from", (3, 2), (17, 2)), ((3, 2), (17, 2)), (2, 1), 70)
        self.assertEqual(ruler[1], ((3, 2), (17, 2)))
        self.assertEqual([(tick[0], tick[1]) for tick in ticks],
                         [(5, (2, 1)), (25, (4, 1)), (45, (6, 1)), (65, (8, 1))])

    def test_the_ends_of_a_declared_domain_are_included(self):
        ticks = candidate(linear("from", (2, 1), (6, 1)), whole(2, 6), (2, 1), 100)[1]
        self.assertEqual([(tick[0], tick[1]) for tick in ticks], [(0, (2, 1)), (50, (4, 1)), (100, (6, 1))])

    def test_no_ticks(self):
        ruler, ticks = candidate(linear("from", (1, 1), (9, 1)), whole(1, 9), (10, 1), 50)
        self.assertEqual((ruler[1], ticks), (whole(1, 9), ()))

    def test_labels_in_the_format_of_the_axis(self):
        scale = linear("fit", axis=("", False, ("$", " k", True)))
        self.assertEqual([tick[2] for tick in candidate(scale, whole(0, 2000), (1000, 1), 400)[1]],
                         ["$0 k", "$1,000 k", "$2,000 k"])

    def test_a_reversed_scale(self):
        scale = linear("fit", backwards=True, clamped=True)
        ruler, ticks = candidate(scale, whole(0, 3), (1, 1), 100)
        self.assertEqual(ruler, ("linear", whole(0, 3), 100, True, True))
        self.assertEqual(ticks, ((0, (3, 1), "3", 0), (33, (2, 1), "2", 0), (67, (1, 1), "1", 0), (100, (0, 1), "0", 0)))

    def test_lines(self):
        lines = [tick[3] for tick in candidate(linear("fit"), whole(0, 10), (1, 1), 40)[1]]
        self.assertEqual(lines, [0, 1, 2, 0, 1, 2, 0, 1, 2, 0, 1])
        lines = [tick[3] for tick in candidate(linear("fit"), whole(0, 10), (1, 1), 40, vertical=True)[1]]
        self.assertEqual(lines, [0, 1, 2, 0, 1, 2, 0, 1, 2, 0, 1])
        lines = [tick[3] for tick in candidate(linear("fit"), whole(0, 10), (1, 1), 99, vertical=True)[1]]
        self.assertEqual(lines, [0, 1] * 5 + [0])

    def test_labels_that_just_keep_their_distance(self):
        # The labels are 4 pixels wide on the x axis and 7 pixels high on the y axis.
        ends = whole(4, 5)
        for length, vertical in ((10, False), (10, True)):
            self.assertEqual([tick[3] for tick in candidate(linear("fit"), ends, (1, 1), length,
                                                            vertical=vertical)[1]], [0, 0])
            self.assertEqual([tick[3] for tick in candidate(linear("fit"), ends, (1, 1), length - 1,
                                                            vertical=vertical)[1]], [0, 1])

    def test_many_candidates(self):
        for (low, high), step, length, backwards, vertical in product(
                ((Fraction(-1, 3), Fraction(5, 7)), (Fraction(0), Fraction(3)), (Fraction(-50), Fraction(-7, 2))),
                (Fraction(1, 10), Fraction(1, 2), Fraction(2), Fraction(100)), (4, 37, 400), (False, True),
                (False, True)):
            if (high - low) / step > 80:
                continue
            ends = (pair(low), pair(high))
            for scale in (linear("fit", backwards=backwards), linear("from", *ends, backwards=backwards)):
                self.assertEqual(candidate(scale, ends, pair(step), length, vertical=vertical),
                                 expected_candidate(scale, (low, high), step, length, vertical))


class LinearAxisTest(unittest.TestCase):
    def test_the_first_candidate_has_the_least_round_step(self):
        # (b - a) / ticks is 9 / 5, so the steps begin with 2.
        ruler, ticks = axis_of(linear("fit"), whole(1, 10), 400)
        self.assertEqual(ruler[1], whole(0, 10))
        self.assertEqual([tick[1] for tick in ticks], list(whole(0, 2, 4, 6, 8, 10)))
        # With one more interval they begin with 3 / 2 and so with 2 again, with four more with 1.
        self.assertEqual(axis_of(linear("fit", ticks=6), whole(1, 10), 400)[0][1], whole(0, 10))
        self.assertEqual(axis_of(linear("fit", ticks=9), whole(1, 10), 400)[0][1], whole(1, 10))

    def test_too_many_ticks_do_not_suit(self):
        # The step 1 would give the ticks 0 to 3 to a scale for two intervals.
        ruler, ticks = axis_of(linear("fit", ticks=2), ((1, 2), (5, 2)), 400)
        self.assertEqual(ruler[1], whole(0, 4))
        self.assertEqual([tick[1] for tick in ticks], list(whole(0, 2, 4)))
        self.assertEqual(axis_of(linear("fit", ticks=3), ((1, 2), (5, 2)), 400)[0][1], whole(0, 3))

    def test_the_hidden_axis_takes_the_first_candidate(self):
        hidden = linear("fit", ticks=2, axis=None)
        self.assertEqual(axis_of(hidden, ((1, 2), (5, 2)), 400), (("linear", whole(0, 3), 400, False, False), ()))
        self.assertEqual(axis_of(linear("zero", ticks=3, axis=None), whole(1, 3), 20),
                         (("linear", whole(0, 3), 20, False, False), ()))
        declared = linear("from", (1, 3), (2, 3), axis=None, backwards=True, clamped=True)
        self.assertEqual(axis_of(declared, whole(100), 9), (("linear", ((1, 3), (2, 3)), 9, True, True), ()))

    def test_no_cells(self):
        self.assertEqual(axis_of(linear("fit", ticks=1), (), 100)[0][1], whole(0, 1))
        self.assertEqual(axis_of(linear("zero", ticks=2), (None,), 100)[1],
                         ((0, (0, 1), "0", 0), (50, (1, 2), "0.5", 0), (100, (1, 1), "1", 0)))

    def test_a_declared_domain(self):
        scale = linear("from", (-3, 1), (28, 1), ticks=4)
        ruler, ticks = axis_of(scale, whole(1000, -1000), 310)
        self.assertEqual(ruler, ("linear", whole(-3, 28), 310, False, False))
        self.assertEqual([(tick[0], tick[2]) for tick in ticks], [(30, "0"), (130, "10"), (230, "20")])

    def test_a_declared_domain_without_multiples(self):
        # No two labels of tenths have room, and the next steps have a tick only at 0 or none.
        scale = linear("from", (21, 100), (39, 100), ticks=1)
        ruler, ticks = axis_of(scale, (), 4)
        self.assertEqual((ruler[1], ticks), (((21, 100), (39, 100)), ()))

    def test_no_candidate_that_suits(self):
        # The labels are so wide that two of them never have room on four pixels.
        scale = linear("fit", ticks=1, axis=("", False, ("abcdefgh", "abcdefgh", False)))
        found = axis_of(scale, whole(-1, 1), 4)
        step = pair(Fraction(1000))
        self.assertEqual(found, candidate(scale, whole(-1, 1), step, 4))
        self.assertEqual(found[0][1], whole(-1000, 1000))
        self.assertEqual([tick[3] for tick in found[1]], [0, 1, 2])

    def test_there_are_nine_candidates(self):
        # On nine pixels the labels 0 and 1 keep their distance, and no labels with a point do. The steps from 0.005,
        # 0.002 and 0.001 on reach 1 with the eighth, the ninth and the tenth one.
        scale = linear("fit", ticks=1)
        for end, high in (((1, 200), (1, 1)), ((1, 500), (1, 1)), ((1, 1000), (1, 2))):
            found = axis_of(scale, ((0, 1), end), 9)
            self.assertEqual(found, candidate(scale, ((0, 1), end), high, 9))
            self.assertEqual(found[0][1], ((0, 1), high))
            self.assertEqual([tick[3] for tick in found[1]], [0, 0] if high == (1, 1) else [0, 1])

    def test_many_axes(self):
        random = Random(205)
        for _ in range(400):
            low = Fraction(random.randint(-10 ** 4, 10 ** 4), random.choice((1, 1, 3, 7, 100)))
            high = low + Fraction(random.randint(1, 10 ** random.randrange(1, 5)), random.choice((1, 1, 3, 7, 100)))
            ticks, length = random.randrange(1, 13), random.choice((4, 10, 20, 50, 100, 200, 400))
            backwards, vertical, axis = random.choice((False, True)), random.choice((False, True)), SHOWN
            if random.random() < 0.1:
                axis = None
            ends = (pair(low), pair(high))
            for scale in (linear("fit", ticks=ticks, axis=axis, backwards=backwards),
                          linear("from", *ends, ticks=ticks, axis=axis, backwards=backwards)):
                self.assertEqual(axis_of(scale, ends[::-1] + (None,), length, vertical=vertical),
                                 expected_axis(scale, (low, high), length, vertical))

    def test_arguments_stay_as_they_are(self):
        scale, cells = linear("fit", backwards=True), whole(5, None, 1)
        before = copy.deepcopy((scale, cells))
        axis_of(scale, cells, 50)
        self.assertEqual((scale, cells), before)


class BandAxisTest(unittest.TestCase):
    def test_ticks(self):
        ruler, ticks = axis_of(band("fit"), ("south", "north", None, "south"), 100)
        self.assertEqual(ruler, ("band", ("north", "south"), 100, False, False))
        self.assertEqual(ticks, ((25, "north", "north", 0), (75, "south", "south", 0)))

    def test_a_reversed_scale(self):
        ruler, ticks = axis_of(band("of", ("a", "c", "b"), backwards=True, clamped=True), (), 60)
        self.assertEqual(ruler, ("band", ("a", "c", "b"), 60, True, True))
        self.assertEqual(ticks, ((10, "b", "b", 0), (30, "c", "c", 0), (50, "a", "a", 0)))

    def test_labels_are_the_texts_of_the_cells(self):
        self.assertEqual([tick[2] for tick in axis_of(band("fit"), (True, False), 100)[1]], ["false", "true"])
        self.assertEqual([tick[2] for tick in axis_of(band("fit"), ((1, 2), (-1, 3), (1000, 1)), 100)[1]],
                         ["-1/3", "0.5", "1000"])

    def test_labels_can_have_several_lines(self):
        cells = ("a long name", "another long name", "b", "c")
        self.assertEqual([tick[3] for tick in axis_of(band("fit"), cells, 60)[1]], [0, 1, 2, 0])
        self.assertEqual([tick[3] for tick in axis_of(band("fit"), cells, 60, vertical=True)[1]], [0, 0, 0, 0])
        self.assertEqual([tick[3] for tick in axis_of(band("fit"), cells, 36, vertical=True)[1]], [0, 1, 0, 1])

    def test_no_categories(self):
        self.assertEqual(axis_of(band("fit"), (None,), 50), (("band", (), 50, False, False), ()))

    def test_a_hidden_axis_has_no_ticks(self):
        self.assertEqual(axis_of(band("of", ("b", "a"), axis=None), ("c",), 50),
                         (("band", ("b", "a"), 50, False, False), ()))

    def test_as_many_categories_as_pixels(self):
        for many in (1, 5, 9):
            cells = whole(*range(many))
            ruler, ticks = axis_of(band("fit"), cells, many)
            self.assertEqual(ruler[1], cells)
            self.assertEqual([tick[0] for tick in ticks], list(range(many)))

    def test_one_category_more_than_pixels(self):
        for many, axis in product((5, 8, 9), (SHOWN, None)):
            with self.assertRaises(TooManyCategories) as caught:
                axis_of(band("fit", axis=axis), whole(*range(many)) + (None, (0, 1)), many - 1)
            self.assertEqual(caught.exception.count, many)
        with self.assertRaises(TooManyCategories) as caught:
            axis_of(band("of", tuple("abcdefg")), (), 4, vertical=True)
        self.assertEqual(caught.exception.count, 7)

    def test_four_hundred_categories(self):
        cells = whole(*range(400))
        ruler, ticks = axis_of(band("fit"), cells[::-1], 400)
        self.assertEqual(ruler[1], cells)
        self.assertEqual(len(ticks), 400)


if __name__ == "__main__":
    unittest.main()
