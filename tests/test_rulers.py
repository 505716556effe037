"""Points 180 to 185."""

import copy
import unittest
from fractions import Fraction
from itertools import product
from math import floor

from samples import pair

from chartspec.fractions import compare
from chartspec.rulers import band, nearest, offset, pixel, range_of, report_at

TEN = ("linear", ((0, 1), (10, 1)), 20, False, False)
TURNED = ("linear", ((0, 1), (10, 1)), 20, True, False)
ABC = ("band", ("a", "b", "c"), 20, False, False)
TURNED_ABC = ("band", ("a", "b", "c"), 20, True, False)
DOMAINS = (((0, 1), (10, 1)), ((-1, 3), (5, 7)), ((-7, 2), (-1, 2)), ((1, 10), (1, 5)), ((10 ** 9 - 1, 1), (10 ** 9, 1)))
LENGTHS = (1, 2, 3, 20, 37)


def linear_rulers():
    for domain, length, backwards, clamped in product(DOMAINS, LENGTHS, (False, True), (False, True)):
        yield ("linear", domain, length, backwards, clamped)


def fractions_of(domain, many):
    """Fractions from one end of a domain to the other, ends included, and with them some beside the edges."""
    low, high = Fraction(*domain[0]), Fraction(*domain[1])
    for step in range(many + 1):
        for beside in (0, Fraction(1, 10 ** 6), -Fraction(1, 10 ** 6)):
            found = low + (high - low) * (Fraction(step, many) + beside)
            if low <= found <= high:
                yield found


def in_span(span, fraction):
    low, high, closed = span
    return Fraction(*low) <= fraction and (fraction < Fraction(*high) or closed and fraction == Fraction(*high))


class ExampleTest(unittest.TestCase):
    def test_a_linear_ruler(self):
        self.assertEqual(pixel(TEN, (3, 1)), 6)
        self.assertEqual(pixel(TEN, (1, 4)), 1)
        self.assertIsNone(pixel(TEN, (11, 1)))
        self.assertEqual(report_at(TEN, 1), ((1, 4), (3, 4), False))
        self.assertEqual(report_at(TEN, 20), ((39, 4), (10, 1), True))
        self.assertEqual(range_of(TURNED, 0, 1), ((37, 4), (10, 1), True))

    def test_a_band_ruler(self):
        self.assertEqual([band(ABC, cell) for cell in "abc"], [(0, 6), (6, 13), (13, 20)])
        self.assertEqual(pixel(ABC, "b"), 9)
        self.assertEqual(band(TURNED_ABC, "a"), (14, 20))
        self.assertEqual(pixel(TURNED_ABC, "a"), 17)


class OffsetTest(unittest.TestCase):
    def test_the_ends(self):
        for domain, length in product(DOMAINS, LENGTHS):
            self.assertEqual(offset(domain, length, domain[0]), 0)
            self.assertEqual(offset(domain, length, domain[1]), length)

    def test_half_way_between_two_offsets(self):
        self.assertEqual(offset(((0, 1), (10, 1)), 20, (1, 4)), 1)
        self.assertEqual(offset(((0, 1), (10, 1)), 20, (249, 1000)), 0)
        self.assertEqual(offset(((0, 1), (1, 1)), 1, (1, 2)), 1)
        self.assertEqual(offset(((-10, 1), (0, 1)), 20, (-1, 4)), 20)
        self.assertEqual(offset(((-10, 1), (0, 1)), 20, (-251, 1000)), 19)

    def test_many_fractions(self):
        for domain, length in product(DOMAINS, LENGTHS):
            low, high = Fraction(*domain[0]), Fraction(*domain[1])
            for fraction in fractions_of(domain, 4 * length):
                expected = floor((fraction - low) * length / (high - low) + Fraction(1, 2))
                self.assertEqual(offset(domain, length, pair(fraction)), expected)

    def test_domains_with_ends_that_are_no_whole_numbers(self):
        domain = ((-1, 3), (5, 7))
        self.assertEqual(offset(domain, 22, (0, 1)), 7)
        self.assertEqual(offset(domain, 22, (1, 7)), 10)


class LinearTest(unittest.TestCase):
    def test_reversed(self):
        self.assertEqual(pixel(TURNED, (3, 1)), 14)
        self.assertEqual(pixel(TURNED, (0, 1)), 20)
        self.assertEqual(pixel(TURNED, (10, 1)), 0)
        # The offset is rounded, not the pixel.
        self.assertEqual(pixel(TURNED, (1, 4)), 19)

    def test_numbers_outside(self):
        for ruler in linear_rulers():
            form, (low, high), length, backwards, clamped = ruler
            below, above = (low[0] - low[1], low[1]), (high[0] + high[1], high[1])
            first, last = (length, 0) if backwards else (0, length)
            self.assertEqual(pixel(ruler, below), first if clamped else None)
            self.assertEqual(pixel(ruler, above), last if clamped else None)
            self.assertEqual((nearest(ruler, below), nearest(ruler, above)), (first, last))
            self.assertEqual((pixel(ruler, low), pixel(ruler, high)), (first, last))

    def test_numbers_just_outside(self):
        self.assertIsNone(pixel(TEN, (-1, 10 ** 12 - 1)))
        self.assertEqual(nearest(TEN, (-1, 10 ** 12 - 1)), 0)
        self.assertEqual(nearest(TURNED, (-1, 10 ** 12 - 1)), 20)
        self.assertIsNone(pixel(TEN, (10 ** 11 + 1, 10 ** 10)))
        self.assertEqual(nearest(TEN, (10 ** 11 + 1, 10 ** 10)), 20)

    def test_a_missing_cell(self):
        for ruler in linear_rulers():
            self.assertIsNone(pixel(ruler, None))

    def test_inside_pixel_and_nearest_are_the_same(self):
        for ruler in linear_rulers():
            _, domain, length, backwards, _ = ruler
            for fraction in fractions_of(domain, 9):
                found = offset(domain, length, pair(fraction))
                expected = length - found if backwards else found
                self.assertEqual(pixel(ruler, pair(fraction)), expected)
                self.assertEqual(nearest(ruler, pair(fraction)), expected)

    def test_arguments_stay_as_they_are(self):
        ruler = copy.deepcopy(TEN)
        for call in (lambda: nearest(ruler, (-5, 1)), lambda: report_at(ruler, 3), lambda: range_of(ruler, 1, 2)):
            call()
            self.assertEqual(ruler, TEN)


class BandTest(unittest.TestCase):
    def test_bands_have_different_lengths_and_no_gaps(self):
        for many, length, backwards in product(range(1, 8), (7, 8, 20, 400), (False, True)):
            categories = tuple((number, 1) for number in range(many))
            ruler = ("band", categories, length, backwards, False)
            bands = [band(ruler, cell) for cell in categories]
            if backwards:
                bands = bands[::-1]
            self.assertEqual(bands[0][0], 0)
            self.assertEqual(bands[-1][1], length)
            for (_, after), (first, _) in zip(bands, bands[1:]):
                self.assertEqual(after, first)
            for first, after in bands:
                self.assertIn(after - first, (length // many, length // many + 1))

    def test_reversed(self):
        self.assertEqual([band(TURNED_ABC, cell) for cell in "abc"], [(14, 20), (7, 14), (0, 7)])
        self.assertEqual([pixel(TURNED_ABC, cell) for cell in "abc"], [17, 10, 3])
        self.assertEqual([pixel(ABC, cell) for cell in "abc"], [3, 9, 16])

    def test_bands_of_one_pixel(self):
        ruler = ("band", ("a", "b", "c"), 3, False, False)
        self.assertEqual([band(ruler, cell) for cell in "abc"], [(0, 1), (1, 2), (2, 3)])
        self.assertEqual([pixel(ruler, cell) for cell in "abc"], [0, 1, 2])

    def test_cells_that_equal_no_category(self):
        for ruler in (ABC, TURNED_ABC, ("band", (), 20, False, False)):
            for cell in ("d", "A", "", None):
                self.assertIsNone(band(ruler, cell))
                self.assertIsNone(pixel(ruler, cell))

    def test_categories_of_other_kinds(self):
        self.assertEqual(pixel(("band", (False, True), 10, False, False), True), 7)
        self.assertEqual(pixel(("band", ((1, 2), (0, 1)), 10, False, False), (0, 1)), 7)
        self.assertIsNone(pixel(("band", ((1, 2), (0, 1)), 10, False, False), (1, 1)))

    def test_clamped_is_not_looked_at(self):
        ruler = ("band", ("a", "b"), 10, False, True)
        self.assertEqual(pixel(ruler, "b"), 7)
        self.assertIsNone(pixel(ruler, "c"))


class ReportTest(unittest.TestCase):
    def test_the_first_and_the_last_pixel(self):
        self.assertEqual(report_at(TEN, 0), ((0, 1), (1, 4), False))
        self.assertEqual(report_at(TEN, 19), ((37, 4), (39, 4), False))
        self.assertEqual(report_at(TURNED, 0), ((39, 4), (10, 1), True))
        self.assertEqual(report_at(TURNED, 20), ((0, 1), (1, 4), False))
        self.assertEqual(report_at(("linear", ((0, 1), (10, 1)), 1, False, False), 0), ((0, 1), (5, 1), False))
        self.assertEqual(report_at(("linear", ((0, 1), (10, 1)), 1, False, False), 1), ((5, 1), (10, 1), True))

    def test_a_report_contains_just_what_has_the_pixel(self):
        for ruler in linear_rulers():
            _, domain, length, _, _ = ruler
            reports = [report_at(ruler, place) for place in range(length + 1)]
            for fraction in fractions_of(domain, 2 * length):
                found = [place for place, span in enumerate(reports) if in_span(span, fraction)]
                self.assertEqual(found, [pixel(ruler, pair(fraction))])

    def test_ends_are_in_lowest_terms(self):
        for ruler in linear_rulers():
            for place in range(ruler[2] + 1):
                for end in report_at(ruler, place)[:2]:
                    self.assertEqual(end, pair(Fraction(*end)))

    def test_bands(self):
        self.assertEqual("".join(report_at(ABC, place) for place in range(20)), "a" * 6 + "b" * 7 + "c" * 7)
        self.assertEqual("".join(report_at(TURNED_ABC, place) for place in range(20)), "c" * 7 + "b" * 7 + "a" * 6)

    def test_the_last_pixel_of_a_band_ruler(self):
        for ruler in (ABC, TURNED_ABC, ("band", ("a",), 1, False, False), ("band", ("a",), 1, True, False)):
            self.assertIsNone(report_at(ruler, ruler[2]))

    def test_no_categories(self):
        for place in range(5):
            self.assertIsNone(report_at(("band", (), 4, False, False), place))

    def test_categories_that_are_false(self):
        self.assertIs(report_at(("band", (False, True), 4, False, False), 1), False)
        self.assertEqual(report_at(("band", ("", "a"), 4, False, False), 1), "")


class RangeTest(unittest.TestCase):
    def test_one_pixel(self):
        for ruler in linear_rulers():
            for place in range(ruler[2] + 1):
                self.assertEqual(range_of(ruler, place, place), report_at(ruler, place))

    def test_all_pixels(self):
        for ruler in linear_rulers():
            self.assertEqual(range_of(ruler, 0, ruler[2]), ruler[1] + (True,))

    def test_ordinary_ranges(self):
        self.assertEqual(range_of(TEN, 1, 3), ((1, 4), (7, 4), False))
        self.assertEqual(range_of(TEN, 0, 3), ((0, 1), (7, 4), False))
        self.assertEqual(range_of(TEN, 18, 20), ((35, 4), (10, 1), True))
        self.assertEqual(range_of(TURNED, 1, 3), ((33, 4), (39, 4), False))
        self.assertEqual(range_of(TURNED, 18, 20), ((0, 1), (5, 4), False))

    def test_a_range_contains_just_what_has_its_pixels(self):
        for ruler in linear_rulers():
            _, domain, length, _, _ = ruler
            if length > 3:
                continue
            for first in range(length + 1):
                for last in range(first, length + 1):
                    low, high, closed = span = range_of(ruler, first, last)
                    self.assertEqual(compare(low, high), -1)
                    for fraction in fractions_of(domain, 4 * length):
                        inside = first <= pixel(ruler, pair(fraction)) <= last
                        self.assertEqual(in_span(span, fraction), inside)


if __name__ == "__main__":
    unittest.main()
