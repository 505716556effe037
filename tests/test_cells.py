"""Points 122 and 123."""

import unittest
from itertools import product

from chartspec.cells import cell_kind, cell_text, compare_cells, key_text, read_cell

EDGE = 10 ** 12 - 1
LONGEST = "x" * 40

# Cells of all kinds in their order.
ORDER = (
    False, True,
    (-EDGE, 1), (-3, 1), (-1, 2), (-1, 3), (0, 1), (1, EDGE), (1, 3), (1, 2), (1, 1), (2, 1), (10, 1), (EDGE, 1),
    "", " ", "!", "-", "0", "1", "10", "9", "A", "Z", "a", "a ", "a!", "aa", "ab", "b", "false", LONGEST, "~", "~~",
    None,
)

# Texts with the cells of each kind that they denote, beside the text itself.
DENOTED = {
    "true": {"boolean": True}, "false": {"boolean": False}, "True": {}, "FALSE": {}, "": {}, "-": {}, " true": {},
    "0": {"number": (0, 1)}, "1": {"number": (1, 1)}, "-0.5": {"number": (-1, 2)}, "1/3": {"number": (1, 3)},
    "0.50": {}, "1/2": {}, "007": {}, "-0": {}, ".5": {}, "+1": {}, "1,000": {}, " 1": {}, "None": {},
    "999999999999": {"number": (EDGE, 1)}, "-999999999999": {"number": (-EDGE, 1)},
    "1000000000000": {}, "-1000000000000": {}, "1/999999999999": {"number": (1, EDGE)}, "1/1000000000001": {},
    "0.00000000001": {"number": (1, 10 ** 11)}, "0.000000000001": {},
}


class KindTest(unittest.TestCase):
    def test_kinds(self):
        for cell in (True, False):
            self.assertEqual(cell_kind(cell), "boolean")
        for cell in ((0, 1), (1, 1), (-1, 2), (EDGE, 1)):
            self.assertEqual(cell_kind(cell), "number")
        for cell in ("", "a", "true", "1", "-", LONGEST):
            self.assertEqual(cell_kind(cell), "text")

    def test_a_missing_cell(self):
        self.assertIsNone(cell_kind(None))


class OrderTest(unittest.TestCase):
    def test_every_two_cells_of_the_order(self):
        for (i, a), (j, b) in product(enumerate(ORDER), repeat=2):
            found = compare_cells(a, b)
            self.assertEqual(found, (i > j) - (i < j), (a, b))
            self.assertIs(type(found), int)

    def test_kinds(self):
        self.assertEqual(compare_cells(True, (0, 1)), -1)
        self.assertEqual(compare_cells((EDGE, 1), ""), -1)
        self.assertEqual(compare_cells("~", None), -1)
        self.assertEqual(compare_cells(None, False), 1)
        self.assertEqual(compare_cells(None, None), 0)

    def test_true_and_the_number_one_differ(self):
        self.assertEqual(compare_cells(True, (1, 1)), -1)
        self.assertEqual(compare_cells((1, 1), True), 1)
        self.assertEqual(compare_cells(False, (0, 1)), -1)
        self.assertEqual(compare_cells("1", (1, 1)), 1)
        self.assertEqual(compare_cells("true", True), 1)

    def test_a_text_comes_before_those_that_begin_with_it(self):
        self.assertEqual(compare_cells("a", "a "), -1)
        self.assertEqual(compare_cells("", " "), -1)
        self.assertEqual(compare_cells("ab", "a"), 1)


class TextTest(unittest.TestCase):
    def test_texts_of_cells(self):
        for cell, text in ((True, "true"), (False, "false"), ((1, 2), "0.5"), ((-22, 7), "-22/7"), ((0, 1), "0"),
                           ((EDGE, 1), "999999999999"), ("", ""), ("true", "true"), ('say "no"', 'say "no"'),
                           (LONGEST, LONGEST)):
            self.assertEqual(cell_text(cell), text)

    def test_the_text_of_each_cell_denotes_it(self):
        for cell in ORDER[:-1]:
            self.assertEqual(read_cell(cell_text(cell), cell_kind(cell)), cell)
            self.assertIs(type(read_cell(cell_text(cell), cell_kind(cell))), type(cell))

    def test_what_texts_denote(self):
        for text, cells in DENOTED.items():
            self.assertEqual(read_cell(text, "text"), text)
            for kind in ("boolean", "number"):
                found = read_cell(text, kind)
                self.assertEqual(found, cells.get(kind), (text, kind))
                self.assertIs(type(found), type(cells.get(kind)))

    def test_texts_of_forty_characters_and_more(self):
        self.assertEqual(read_cell(LONGEST, "text"), LONGEST)
        self.assertIsNone(read_cell(LONGEST + "x", "text"))
        self.assertIsNone(read_cell(" " * 41, "text"))
        self.assertIsNone(read_cell("x" * 100, "text"))
        self.assertIsNone(read_cell("9" * 100, "number"))

    def test_a_number_can_have_a_text_that_denotes_no_text(self):
        text = cell_text((1, 2 ** 39))
        self.assertEqual(len(text), 41)
        self.assertEqual(read_cell(text, "number"), (1, 2 ** 39))
        self.assertIsNone(read_cell(text, "text"))


class KeyTextTest(unittest.TestCase):
    def test_the_example(self):
        self.assertEqual(key_text(((1, 2), 'say "no"', None, True)), '0.5,"say ""no""",-,true')

    def test_no_cells(self):
        self.assertEqual(key_text(()), "")

    def test_single_cells(self):
        for cell, text in ((None, "-"), (True, "true"), (False, "false"), ((-1, 3), "-1/3"), ("", '""'), ("-", '"-"'),
                           ("true", '"true"'), ("1", '"1"'), ('"', '""""'), ('""', '""""""'), ('a"b', '"a""b"'),
                           ("a,b", '"a,b"'), ("\\", '"\\"')):
            self.assertEqual(key_text((cell,)), text)

    def test_several_cells(self):
        self.assertEqual(key_text((None, None)), "-,-")
        self.assertEqual(key_text(("a", (1, 1))), '"a",1')
        self.assertEqual(key_text((False, "", None, (10, 1))), 'false,"",-,10')

    def test_different_tuples_have_different_key_texts(self):
        cells = (None, True, False, (0, 1), (1, 2), "", "-", "true", "0", '"', ",", '","', '",')
        tuples = [found for many in range(4) for found in product(cells, repeat=many)]
        self.assertEqual(len({key_text(found) for found in tuples}), len(tuples))


if __name__ == "__main__":
    unittest.main()
