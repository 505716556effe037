"""The names and arguments that the interface of DOC.md lists, each in its file."""

import importlib
import inspect
import unittest

FUNCTIONS = {
    "rectangles": {
        "contains": "(rectangle, x, y)",
        "overlap": "(first, second)",
        "inside": "(first, second)",
        "common": "(first, second)",
        "hull": "(rectangles)",
    },
    "texts": {
        "glyph_width": "(character)",
        "text_width": "(text)",
        "inked": "(text, x, y)",
    },
    "shapes": {
        "around": "(shape, points, text)",
        "covers": "(shape, points, text, x, y)",
    },
    "scenes": {
        "identity": "(primitive)",
        "is_keyed": "(scene)",
        "without_keys": "(scene)",
        "reach": "(primitive)",
        "visible_part": "(scene, primitive)",
        "paint_of": "(primitive, x, y)",
    },
    "patches": {
        "merged_order": "(scene, patch)",
        "touched": "(patch)",
        "misfit": "(scene, patch)",
        "patched": "(scene, patch)",
    },
    "damages": {
        "moved": "(first, second)",
        "diff": "(first, second)",
    },
    "algebra": {
        "inverse": "(scene, patch)",
        "composed": "(scene, patches)",
    },
    "pictures": {
        "hits": "(scene, x, y)",
        "hit": "(scene, x, y)",
        "color_at": "(scene, x, y)",
    },
    "painting": {
        "painted": "(scene, rectangle)",
        "picture": "(scene)",
        "needed": "(scene, rectangle)",
        "repainted": "(colors, scene, rectangles)",
    },
    "choices": {
        "chosen_rectangle": "(problem, choice)",
        "is_free": "(problem, choice)",
        "forces": "(problem, choice, other)",
    },
    "chains": {
        "is_chain": "(problem, among, chain, start, goal)",
        "shortest_chain": "(problem, among, start, goal)",
        "reason_of": "(problem, among, label)",
    },
    "placing": {
        "together": "(problem, among)",
        "kept_labels": "(problem)",
        "place_labels": "(problem)",
    },
    "judging": {
        "flaw": "(problem, placement)",
    },
    "fractions": {
        "lowest": "(numerator, denominator)",
        "plus": "(a, b)",
        "minus": "(a, b)",
        "times": "(a, b)",
        "over": "(a, b)",
        "compare": "(a, b)",
        "floor_of": "(a)",
        "ceiling_of": "(a)",
        "nearest_of": "(a)",
        "as_number": "(a)",
        "fraction_text": "(a)",
        "read_fraction": "(text)",
    },
    "cells": {
        "cell_kind": "(cell)",
        "compare_cells": "(a, b)",
        "cell_text": "(cell)",
        "read_cell": "(text, kind)",
        "key_text": "(cells)",
    },
    "tables": {
        "data_table": "(columns, rows)",
    },
    "expressions": {
        "places": "(expression)",
        "columns_in": "(expression)",
        "kind_of": "(expression, columns)",
        "evaluate": "(expression, columns, cells)",
    },
    "orders": {
        "ordered": "(columns, rows, keys)",
    },
    "groups": {
        "aggregate": "(function, cells)",
        "grouped": "(table, columns, aggregates)",
    },
    "stacks": {
        "stacked": "(table, column, over, keys, low, high)",
    },
    "transforms": {
        "columns_after": "(columns, transform)",
        "transformed": "(table, transform)",
    },
    "rulers": {
        "offset": "(domain, length, fraction)",
        "nearest": "(ruler, fraction)",
        "band": "(ruler, cell)",
        "pixel": "(ruler, cell)",
        "report_at": "(ruler, place)",
        "range_of": "(ruler, first, last)",
    },
    "fitted": {
        "fitted_domain": "(scale, cells)",
    },
    "formats": {
        "number_label": "(fraction, style)",
        "read_label": "(text, style)",
    },
    "steps": {
        "round_step": "(fraction)",
        "step_after": "(step)",
        "multiples": "(step, low, high)",
    },
    "lines": {
        "extent": "(place, label, *, vertical=False)",
        "line_count": "(extents, gap)",
    },
    "ticks": {
        "candidate": "(scale, domain, step, length, *, vertical=False)",
        "axis_of": "(scale, cells, length, *, vertical=False)",
    },
    "colors": {
        "brightness": "(color)",
        "text_color": "(color)",
        "palette_colors": "(palette)",
        "color_of": "(palette, categories, cell)",
    },
    "checking": {
        "check_spec": "(spec)",
        "last_columns": "(spec, number, layer)",
        "scale_kind": "(spec, number, channel)",
    },
    "marks": {
        "row_color": "(frame, layer, columns, cells)",
        "row_mark": "(frame, number, layer, columns, row)",
    },
    "series": {
        "series_of": "(layer, columns, row)",
        "layer_marks": "(frame, number, layer, table)",
    },
    "guides": {
        "shown_cells": "(layers, tables, channels)",
        "frame_of": "(spec, number, tables)",
        "guides_of": "(spec, number, tables)",
    },
    "tags": {
        "side_rectangle": "(around, side, width)",
        "label_problem": "(frame, layers, tables, number)",
        "labels_of": "(frame, layers, tables, number)",
        "label_marks": "(frame, layers, tables, number)",
    },
    "layout": {
        "outline_of": "(frame, guides)",
        "page_of": "(title, rows)",
    },
    "drawing": {
        "layer_tables": "(spec, data, number)",
        "sketch": "(spec, number, tables)",
        "draw": "(spec, data)",
    },
    "channels": {
        "shown_channels": "(layer)",
        "can_read": "(spec, number, channel)",
        "unread": "(spec)",
    },
    "reports": {
        "report_rows": "(spec, number, layer, frame, table)",
        "reported": "(spec, data)",
    },
    "readings": {
        "plot_area": "(scene, number)",
        "read_ruler": "(scene, spec, number, axis)",
        "read_categories": "(scene, spec, number)",
        "read_frame": "(scene, spec, number)",
        "read_layer": "(scene, spec, number, layer)",
        "read_back": "(scene, spec)",
    },
    "rebuilding": {
        "simplest": "(span)",
        "rebuilt": "(scene, spec, number, layer)",
        "row_at": "(scene, spec, x, y)",
    },
    "readability": {
        "single_sketch": "(spec, number, cells)",
        "drawn_alike": "(spec, number, first, second)",
        "full_report": "(frame, channel, cell)",
        "alike": "(spec, number, channel)",
    },
    "formulas": {
        "is_formula": "(expression)",
        "tests_of": "(formula)",
    },
    "limits": {
        "scale_values": "(ruler)",
        "limits_of": "(first, second, table, column)",
        "candidates": "(kind, limits)",
    },
    "cases": {
        "features": "(frame, number, layer, columns, cells)",
        "test_values": "(first, second, table, column)",
        "test_rows": "(first, second, table)",
    },
    "comparison": {
        "same": "(first, second, data)",
        "compared": "(first, second)",
    },
}
GENERATORS = (("cases", "test_rows"),)
METHODS = {
    ("sessions", "Session"): {
        "__init__": "(self, spec, data, *, most=20)",
        "change": "(self, edits)",
        "undo": "(self)",
        "redo": "(self)",
        "attach": "(self)",
        "render": "(self, viewer=0)",
        "preview": "(self, edits, *, viewer=0)",
        "seen": "(self, viewer)",
        "__len__": "(self)",
        "__iter__": "(self)",
    },
}
PROPERTIES = {("sessions", "Session"): ("spec", "data", "scene", "next_numbers", "can_undo", "can_redo")}
CLASSES = {
    "errors": ("ChartError", "PatchDoesNotFit", "PictureTooLarge", "DuplicateName", "UnknownName", "WrongKind",
               "ChannelNeeded", "ChannelNotAllowed", "ScalesDoNotFit", "TooManyCategories", "TooManyRows",
               "NotReadable", "NotDecided", "NotComparable", "TooManyCases", "NothingToUndo", "NothingToRedo"),
    "sessions": ("Session",),
}


class InterfaceTest(unittest.TestCase):
    def test_each_function_is_defined_in_its_file_with_its_arguments(self):
        for file, functions in FUNCTIONS.items():
            module = importlib.import_module(f"chartspec.{file}")
            for name, arguments in functions.items():
                with self.subTest(file=file, name=name):
                    function = getattr(module, name)
                    self.assertTrue(inspect.isfunction(function))
                    self.assertEqual(function.__module__, f"chartspec.{file}")
                    self.assertEqual(str(inspect.signature(function)), arguments)

    def test_generators(self):
        for file, functions in FUNCTIONS.items():
            module = importlib.import_module(f"chartspec.{file}")
            for name in functions:
                self.assertEqual(inspect.isgeneratorfunction(getattr(module, name)), (file, name) in GENERATORS)

    def test_each_method_is_defined_in_its_class_with_its_arguments(self):
        for (file, name), methods in METHODS.items():
            found = vars(getattr(importlib.import_module(f"chartspec.{file}"), name))
            for method, arguments in methods.items():
                with self.subTest(method=method):
                    self.assertTrue(inspect.isfunction(found[method]))
                    self.assertEqual(str(inspect.signature(found[method])), arguments)
            for word in PROPERTIES[file, name]:
                self.assertIsInstance(found[word], property)

    def test_each_class_is_defined_in_its_file(self):
        for file, classes in CLASSES.items():
            module = importlib.import_module(f"chartspec.{file}")
            for name in classes:
                with self.subTest(file=file, name=name):
                    self.assertTrue(inspect.isclass(getattr(module, name)))
                    self.assertEqual(getattr(module, name).__module__, f"chartspec.{file}")


if __name__ == "__main__":
    unittest.main()
