"""Point 206."""

import unittest
from itertools import product

from chartspec.formats import number_label, read_label
from chartspec.fractions import fraction_text, lowest

PLAIN, GROUPED = ("", "", False), ("", "", True)

# Fractions with their labels without and with groups of digits.
LABELS = (
    ((0, 1), "0", "0"), ((7, 1), "7", "7"), ((-7, 1), "-7", "-7"), ((12, 1), "12", "12"),
    ((123, 1), "123", "123"), ((-123, 1), "-123", "-123"), ((999, 1), "999", "999"),
    ((1000, 1), "1000", "1,000"), ((1234, 1), "1234", "1,234"), ((-1234, 1), "-1234", "-1,234"),
    ((12345, 1), "12345", "12,345"), ((123456, 1), "123456", "123,456"), ((-123456, 1), "-123456", "-123,456"),
    ((1234567, 1), "1234567", "1,234,567"), ((1000000, 1), "1000000", "1,000,000"),
    ((-12345678, 10), "-1234567.8", "-1,234,567.8"), ((1, 2), "0.5", "0.5"), ((-1, 2), "-0.5", "-0.5"),
    ((1, 8), "0.125", "0.125"), ((1, 16), "0.0625", "0.0625"), ((12345678, 10000), "1234.5678", "1,234.5678"),
    ((1, 1024), "0.0009765625", "0.0009765625"), ((10 ** 12 - 1, 1), "999999999999", "999,999,999,999"),
    ((1, 3), "1/3", "1/3"), ((-22, 7), "-22/7", "-22/7"), ((1234567, 3), "1234567/3", "1234567/3"),
    ((-1, 1234567), "-1/1234567", "-1/1234567"), ((10 ** 20, 1), "1" + "0" * 20, "100,000,000,000,000,000,000"),
)
STYLES = (PLAIN, GROUPED, ("$", "", True), ("", " cm", False), ("<", ">", True), ("about ", " kg", True),
          ("  ", " ", False), ("abcdefgh", "ABCDEFGH", True), ("x", "x", True), ("(", "", False))


class LabelTest(unittest.TestCase):
    def test_labels(self):
        for (above, below), plain, grouped in LABELS:
            fraction = lowest(above, below)
            self.assertEqual(number_label(fraction, PLAIN), plain)
            self.assertEqual(number_label(fraction, GROUPED), grouped)

    def test_texts_before_and_after(self):
        self.assertEqual(number_label((1, 2), ("$", "", False)), "$0.5")
        self.assertEqual(number_label((-1, 2), ("$", " a", False)), "$-0.5 a")
        self.assertEqual(number_label((1234, 1), ("about ", " kg", True)), "about 1,234 kg")
        self.assertEqual(number_label((1, 3), ("<", ">", True)), "<1/3>")

    def test_the_example(self):
        self.assertEqual(number_label((-12345678, 5), ("", " cm", True)), "-2,469,135.6 cm")
        self.assertIsNone(read_label("1234", ("", "", True)))


class ReadTest(unittest.TestCase):
    def test_each_label_is_read(self):
        for ((above, below), _, _), style in product(LABELS, STYLES):
            fraction = lowest(above, below)
            self.assertEqual(read_label(number_label(fraction, style), style), fraction)

    def test_labels_of_other_formats_are_not_read(self):
        for ((above, below), _, _), style, other in product(LABELS, STYLES, STYLES):
            fraction = lowest(above, below)
            text = number_label(fraction, style)
            found = read_label(text, other)
            self.assertEqual(found is not None, number_label(fraction, other) == text, (text, other))

    def test_texts_that_are_not_read(self):
        for text in ("1234", "12,34", "1,2345", ",123", "123,", "1,,234", "1,23", "0,123", "1,234,56", "1234,567",
                     "1,234.5,6", "1,234.", "1.234,5", "-,123", ",", "", "-", "1,234/7", "1/1,234", "0.50", "1/2",
                     "007", "-0", ".5", "+1", "1 234", "$1", "1$", "one", "1,234/1"):
            self.assertIsNone(read_label(text, GROUPED), text)
        for text in ("1,234", "1,000,000", "", "-", "0.50", "1/2", "007", "-0", ".5", "+1", "1 ", " 1", "1/2.0"):
            self.assertIsNone(read_label(text, PLAIN), text)

    def test_texts_before_and_after(self):
        style = ("$", " kg", True)
        self.assertEqual(read_label("$1,234 kg", style), (1234, 1))
        for text in ("1,234 kg", "$1,234", "$1,234kg", " $1,234 kg", "$1,234 kg ", "$ kg", "$", " kg", "", "$1,234 k",
                     "-$1,234 kg", "$1234 kg", "$$1 kg", "$1 kg kg", "1", "x1 kg", "$1 xx"):
            self.assertIsNone(read_label(text, style), text)

    def test_texts_that_are_shorter_than_the_format(self):
        for text in ("", "a", "ab", "abc", "1", "12", "ab1", "1ab"):
            self.assertIsNone(read_label(text, ("ab", "abc", False)), text)
        self.assertIsNone(read_label("aba", ("ab", "ba", False)))
        self.assertEqual(read_label("ab1ba", ("ab", "ba", False)), (1, 1))

    def test_no_other_text_of_a_few_characters_is_read(self):
        for many in range(6):
            for characters in product("-,./01", repeat=many):
                text = "".join(characters)
                found = read_label(text, GROUPED)
                if found is not None:
                    self.assertEqual(number_label(found, GROUPED), text)
                    self.assertEqual(fraction_text(found), text.replace(",", ""))

    def test_long_texts(self):
        self.assertEqual(read_label("9" * 100, PLAIN), (10 ** 100 - 1, 1))
        self.assertEqual(read_label("9" + ",999" * 24, GROUPED), (10 ** 73 - 1, 1))
        self.assertIsNone(read_label("9" * 100, GROUPED))


if __name__ == "__main__":
    unittest.main()
