"""The names and arguments that the interface of DOC.md lists, each in its file."""

import importlib
import inspect
import unittest

FUNCTIONS = {
    "rectangles": {
        "contains": "(rectangle, x, y)",
        "overlap": "(first, second)",
        "inside": "(first, second)",
        "common": "(first, second)",
        "hull": "(rectangles)",
    },
    "texts": {
        "glyph_width": "(character)",
        "text_width": "(text)",
        "inked": "(text, x, y)",
    },
    "shapes": {
        "around": "(shape, points, text)",
        "covers": "(shape, points, text, x, y)",
    },
    "scenes": {
        "identity": "(primitive)",
        "is_keyed": "(scene)",
        "without_keys": "(scene)",
        "reach": "(primitive)",
        "visible_part": "(scene, primitive)",
        "paint_of": "(primitive, x, y)",
    },
    "patches": {
        "merged_order": "(scene, patch)",
        "touched": "(patch)",
        "misfit": "(scene, patch)",
        "patched": "(scene, patch)",
    },
    "damages": {
        "moved": "(first, second)",
        "diff": "(first, second)",
    },
    "algebra": {
        "inverse": "(scene, patch)",
        "composed": "(scene, patches)",
    },
    "pictures": {
        "hits": "(scene, x, y)",
        "hit": "(scene, x, y)",
        "color_at": "(scene, x, y)",
    },
    "painting": {
        "painted": "(scene, rectangle)",
        "picture": "(scene)",
        "needed": "(scene, rectangle)",
        "repainted": "(colors, scene, rectangles)",
    },
    "choices": {
        "chosen_rectangle": "(problem, choice)",
        "is_free": "(problem, choice)",
        "forces": "(problem, choice, other)",
    },
    "chains": {
        "is_chain": "(problem, among, chain, start, goal)",
        "shortest_chain": "(problem, among, start, goal)",
        "reason_of": "(problem, among, label)",
    },
    "placing": {
        "together": "(problem, among)",
        "kept_labels": "(problem)",
        "place_labels": "(problem)",
    },
    "judging": {
        "flaw": "(problem, placement)",
    },
    "fractions": {
        "lowest": "(numerator, denominator)",
        "plus": "(a, b)",
        "minus": "(a, b)",
        "times": "(a, b)",
        "over": "(a, b)",
        "compare": "(a, b)",
        "floor_of": "(a)",
        "ceiling_of": "(a)",
        "nearest_of": "(a)",
        "as_number": "(a)",
        "fraction_text": "(a)",
        "read_fraction": "(text)",
    },
    "cells": {
        "cell_kind": "(cell)",
        "compare_cells": "(a, b)",
        "cell_text": "(cell)",
        "read_cell": "(text, kind)",
        "key_text": "(cells)",
    },
    "tables": {
        "data_table": "(columns, rows)",
    },
    "expressions": {
        "places": "(expression)",
        "columns_in": "(expression)",
        "kind_of": "(expression, columns)",
        "evaluate": "(expression, columns, cells)",
    },
    "orders": {
        "ordered": "(columns, rows, keys)",
    },
    "groups": {
        "aggregate": "(function, cells)",
        "grouped": "(table, columns, aggregates)",
    },
    "stacks": {
        "stacked": "(table, column, over, keys, low, high)",
    },
    "transforms": {
        "columns_after": "(columns, transform)",
        "transformed": "(table, transform)",
    },
    "rulers": {
        "offset": "(domain, length, fraction)",
        "nearest": "(ruler, fraction)",
        "band": "(ruler, cell)",
        "pixel": "(ruler, cell)",
        "report_at": "(ruler, place)",
        "range_of": "(ruler, first, last)",
    },
    "fitted": {
        "fitted_domain": "(scale, cells)",
    },
    "formats": {
        "number_label": "(fraction, style)",
        "read_label": "(text, style)",
    },
    "steps": {
        "round_step": "(fraction)",
        "step_after": "(step)",
        "multiples": "(step, low, high)",
    },
    "lines": {
        "extent": "(place, label, *, vertical=False)",
        "line_count": "(extents, gap)",
    },
    "ticks": {
        "candidate": "(scale, domain, step, length, *, vertical=False)",
        "axis_of": "(scale, cells, length, *, vertical=False)",
    },
    "colors": {
        "brightness": "(color)",
        "text_color": "(color)",
        "palette_colors": "(palette)",
        "color_of": "(palette, categories, cell)",
    },
    "checking": {
        "check_spec": "(spec)",
        "last_columns": "(spec, number, layer)",
        "scale_kind": "(spec, number, channel)",
    },
}
CLASSES = {
    "errors": ("ChartError", "PatchDoesNotFit", "PictureTooLarge", "DuplicateName", "UnknownName", "WrongKind",
               "ChannelNeeded", "ChannelNotAllowed", "ScalesDoNotFit", "TooManyCategories", "TooManyRows",
               "NotReadable", "NotDecided", "NotComparable", "TooManyCases", "NothingToUndo", "NothingToRedo"),
}


class InterfaceTest(unittest.TestCase):
    def test_each_function_is_defined_in_its_file_with_its_arguments(self):
        for file, functions in FUNCTIONS.items():
            module = importlib.import_module(f"chartspec.{file}")
            for name, arguments in functions.items():
                with self.subTest(file=file, name=name):
                    function = getattr(module, name)
                    self.assertTrue(inspect.isfunction(function))
                    self.assertEqual(function.__module__, f"chartspec.{file}")
                    self.assertEqual(str(inspect.signature(function)), arguments)

    def test_each_class_is_defined_in_its_file(self):
        for file, classes in CLASSES.items():
            module = importlib.import_module(f"chartspec.{file}")
            for name in classes:
                with self.subTest(file=file, name=name):
                    self.assertTrue(inspect.isclass(getattr(module, name)))
                    self.assertEqual(getattr(module, name).__module__, f"chartspec.{file}")


if __name__ == "__main__":
    unittest.main()
