"""Points 120 and 121."""

import math
import re
import unittest
from fractions import Fraction
from itertools import product
from random import Random

from samples import pair

from chartspec.fractions import (as_number, ceiling_of, compare, floor_of, fraction_text, lowest, minus, nearest_of,
                                 over, plus, read_fraction, times)

LARGE = 10 ** 60 - 1
ZERO = (0, 1)


def some_values(many):
    """Small fractions of all kinds and some large ones, by a seeded generator."""
    random = Random(120)
    values = {Fraction(above, below) for above in range(-7, 8) for below in range(1, 6)}
    for _ in range(many):
        top = random.choice((20, 10 ** 6, LARGE))
        values.add(Fraction(random.randint(-top, top), random.randint(1, top)))
    return sorted(values)


VALUES = some_values(60)


class LowestTest(unittest.TestCase):
    def test_ordinary_values(self):
        self.assertEqual(lowest(3, 8), (3, 8))
        self.assertEqual(lowest(6, 8), (3, 4))
        self.assertEqual(lowest(-3, 8), (-3, 8))
        self.assertEqual(lowest(12, 4), (3, 1))
        self.assertEqual(lowest(4, 12), (1, 3))

    def test_negative_denominators(self):
        self.assertEqual(lowest(22, -6), (-11, 3))
        self.assertEqual(lowest(-22, -6), (11, 3))
        self.assertEqual(lowest(5, -1), (-5, 1))
        self.assertEqual(lowest(-4, -4), (1, 1))

    def test_zero(self):
        for below in (1, -1, 7, -7, 10 ** 119):
            self.assertEqual(lowest(0, below), ZERO)

    def test_large_integers(self):
        self.assertEqual(lowest(10 ** 119, 2 * 10 ** 119), (1, 2))
        self.assertEqual(lowest(10 ** 120 - 1, -(10 ** 120 - 1)), (-1, 1))
        self.assertEqual(lowest(10 ** 120 - 1, 10 ** 119), (10 ** 120 - 1, 10 ** 119))

    def test_many_values(self):
        for above, below in product(range(-20, 21), repeat=2):
            if below:
                self.assertEqual(lowest(above, below), pair(Fraction(above, below)))


class ArithmeticTest(unittest.TestCase):
    def test_ordinary_values(self):
        self.assertEqual(plus((1, 2), (1, 3)), (5, 6))
        self.assertEqual(minus((1, 2), (1, 3)), (1, 6))
        self.assertEqual(times((2, 3), (3, 4)), (1, 2))
        self.assertEqual(over((2, 3), (4, 3)), (1, 2))

    def test_zero(self):
        self.assertEqual(plus((-1, 2), (1, 2)), ZERO)
        self.assertEqual(minus((1, 2), (1, 2)), ZERO)
        self.assertEqual(times(ZERO, (-7, 3)), ZERO)
        self.assertEqual(over(ZERO, (-7, 3)), ZERO)

    def test_signs(self):
        self.assertEqual(minus((1, 3), (1, 2)), (-1, 6))
        self.assertEqual(over((1, 2), (-1, 3)), (-3, 2))
        self.assertEqual(over((-1, 2), (-1, 4)), (2, 1))

    def test_large_integers(self):
        self.assertEqual(plus((LARGE, 1), (1, LARGE)), (LARGE ** 2 + 1, LARGE))
        self.assertEqual(times((LARGE, 1), (LARGE, 1)), (LARGE ** 2, 1))
        self.assertEqual(over((1, LARGE), (LARGE, 1)), (1, LARGE ** 2))

    def test_many_values(self):
        for first, second in product(VALUES, repeat=2):
            a, b = pair(first), pair(second)
            self.assertEqual(plus(a, b), pair(first + second))
            self.assertEqual(minus(a, b), pair(first - second))
            self.assertEqual(times(a, b), pair(first * second))
            if second:
                self.assertEqual(over(a, b), pair(first / second))


class CompareTest(unittest.TestCase):
    def test_ordinary_values(self):
        self.assertEqual(compare((1, 3), (1, 2)), -1)
        self.assertEqual(compare((1, 2), (1, 2)), 0)
        self.assertEqual(compare((1, 2), (1, 3)), 1)
        self.assertEqual(compare((-1, 2), (-1, 3)), -1)
        self.assertEqual(compare((-1, 2), ZERO), -1)
        self.assertEqual(compare(ZERO, ZERO), 0)

    def test_values_that_hardly_differ(self):
        self.assertEqual(compare((LARGE - 1, LARGE), (LARGE - 2, LARGE - 1)), 1)
        self.assertEqual(compare((LARGE, 1), (LARGE - 1, 1)), 1)

    def test_many_values(self):
        for first, second in product(VALUES, repeat=2):
            found = compare(pair(first), pair(second))
            self.assertEqual(found, (first > second) - (first < second))
            self.assertIs(type(found), int)


class IntegerTest(unittest.TestCase):
    def check(self, a, floor, ceiling, nearest):
        self.assertEqual((floor_of(a), ceiling_of(a), nearest_of(a)), (floor, ceiling, nearest), a)

    def test_ordinary_values(self):
        self.check((7, 3), 2, 3, 2)
        self.check((8, 3), 2, 3, 3)
        self.check((-7, 3), -3, -2, -2)
        self.check((-8, 3), -3, -2, -3)

    def test_whole_ones_and_zero(self):
        for whole in (-3, -1, 0, 1, 12, LARGE, -LARGE):
            self.check((whole, 1), whole, whole, whole)

    def test_half_way_between_two_integers(self):
        self.check((1, 2), 0, 1, 1)
        self.check((-1, 2), -1, 0, 0)
        self.check((5, 2), 2, 3, 3)
        self.check((-5, 2), -3, -2, -2)

    def test_hardly_beside_the_half(self):
        self.check((499, 1000), 0, 1, 0)
        self.check((501, 1000), 0, 1, 1)
        self.check((-499, 1000), -1, 0, 0)
        self.check((-501, 1000), -1, 0, -1)

    def test_many_values(self):
        for value in VALUES:
            self.check(pair(value), math.floor(value), math.ceil(value), math.floor(value + Fraction(1, 2)))


class NumberTest(unittest.TestCase):
    def test_numbers(self):
        edge = 10 ** 12 - 1
        for a in ((1, 3), ZERO, (-5, 2), (edge, 1), (-edge, 1), (1, edge), (-1, edge), (edge, edge - 1)):
            self.assertEqual(as_number(a), a)

    def test_fractions_that_are_no_numbers(self):
        edge = 10 ** 12
        for a in ((edge, 1), (-edge, 1), (1, edge), (-1, edge), (edge, edge - 1), (edge - 1, edge), (-LARGE, 1),
                  (1, LARGE), (edge + 1, edge)):
            self.assertIsNone(as_number(a))


TEXTS = {
    "12": (12, 1), "0": ZERO, "-0.5": (-1, 2), "0.125": (1, 8), "1/3": (1, 3), "-22/7": (-22, 7), "-0.375": (-3, 8),
    "-11/3": (-11, 3), "7": (7, 1), "-7": (-7, 1), "10": (10, 1), "100": (100, 1), "0.1": (1, 10), "0.05": (1, 20),
    "-0.05": (-1, 20), "1.5": (3, 2), "12.25": (49, 4), "-12.25": (-49, 4), "100.01": (10001, 100), "0.2": (1, 5),
    "1/30": (1, 30), "7/6": (7, 6), "1/15": (1, 15), "-1/7": (-1, 7), "1000000": (1000000, 1), "0.0625": (1, 16),
    "3.14": (157, 50), "999999999999": (10 ** 12 - 1, 1), "1000000000000": (10 ** 12, 1),
    "0.000000000001": (1, 10 ** 12), "1/999999999999": (1, 10 ** 12 - 1),
}


def is_text(text):
    """True if a short text is the text of a fraction, by its form."""
    if re.fullmatch(r"-?(0|[1-9]\d*)(\.\d*[1-9])?", text):
        return text != "-0"
    parts = re.fullmatch(r"-?([1-9]\d*)/([1-9]\d*)", text)
    if parts is None:
        return False
    above, below = int(parts[1]), int(parts[2])
    return math.gcd(above, below) == 1 and 10 ** 20 % below != 0


class TextTest(unittest.TestCase):
    def test_texts(self):
        for text, a in TEXTS.items():
            self.assertEqual(fraction_text(a), text)

    def test_large_integers(self):
        self.assertEqual(fraction_text((-LARGE, 1)), "-" + "9" * 60)
        self.assertEqual(fraction_text((1, 10 ** 59)), "0." + "0" * 58 + "1")
        self.assertEqual(fraction_text((LARGE, 10 ** 59)), "9." + "9" * 59)
        self.assertEqual(fraction_text((1, LARGE)), "1/" + "9" * 60)
        self.assertEqual(fraction_text((LARGE, LARGE - 1)), f"{LARGE}/{LARGE - 1}")
        self.assertEqual(fraction_text((1, 2 ** 199)), "0." + str(5 ** 199).zfill(199))
        self.assertEqual(fraction_text((-1, 5 ** 85)), "-0." + str(2 ** 85).zfill(85))

    def test_many_values(self):
        for value in VALUES:
            text = fraction_text(pair(value))
            self.assertEqual(Fraction(text), value)
            decimal = "/" not in text
            self.assertEqual(decimal, 10 ** 400 % value.denominator == 0, value)
            if decimal and "." in text:
                digits = text.partition(".")[2]
                self.assertNotEqual(digits[-1], "0")
            self.assertRegex(text, r"^-?(0|[1-9]\d*)((\.\d+)|(/[1-9]\d*))?$")


class ReadTest(unittest.TestCase):
    def test_texts(self):
        for text, a in TEXTS.items():
            self.assertEqual(read_fraction(text), a)

    def test_texts_that_are_not_read(self):
        for text in ("0.50", "1/2", "007", "-0", ".5", "+1", "", "2/4", "5.", "1.0", "0.0", "-0.0", "00", "01", "-01",
                     "00.5", "-.5", ".", "-", "--1", "-+1", "+0.5", "- 1", " 1", "1 ", "1 000", "1,000", "1_000",
                     "1e3", "0x10", "abc", "one", "1.2.3", "1..2", "1.-2", "1/0", "0/1", "0/3", "1/1", "3/1", "2/6",
                     "-2/6", "4/3/2", "1/-3", "-1/-3", "/", "/3", "1/", "-/3", "1/3.0", "1.0/3", "1.5/3", "01/3",
                     "1/03", "1 /3", "+1/3", "1//3", "22/-7", "3/8", "-1/10", "1/3-", "true", "-1/0", "0/0", "1/3/"):
            self.assertIsNone(read_fraction(text), text)

    def test_long_texts(self):
        self.assertEqual(read_fraction("9" * 100), (10 ** 100 - 1, 1))
        self.assertEqual(read_fraction("-" + "9" * 99), (1 - 10 ** 99, 1))
        self.assertEqual(read_fraction("0." + "0" * 97 + "1"), (1, 10 ** 98))
        self.assertEqual(read_fraction("1/" + "9" * 98), (1, 10 ** 98 - 1))
        self.assertIsNone(read_fraction("0." + "0" * 98))
        self.assertIsNone(read_fraction("0" * 100))
        self.assertIsNone(read_fraction("3/" + "9" * 98))

    def test_no_other_text_of_a_few_characters_is_read(self):
        for many in range(6):
            for characters in product("-./0135 ", repeat=many):
                text = "".join(characters)
                found = read_fraction(text)
                self.assertEqual(found is not None, is_text(text), text)
                if found is not None:
                    self.assertEqual(found, pair(Fraction(text)))

    def test_many_values(self):
        for value in VALUES:
            text = fraction_text(pair(value))
            if len(text) <= 100:
                self.assertEqual(read_fraction(text), pair(value))


if __name__ == "__main__":
    unittest.main()
