"""Rows in the order of keys (column, descending)."""

from chartspec.cells import compare_cells
from chartspec.sorting import arranged
from chartspec.tables import column_place


def ordered(columns, rows, keys):
    """The rows of a table with these columns in the order of the keys, a tuple."""
    places = [(column_place(columns, name), descending) for name, descending in keys]
    return arranged(rows, lambda first, second: compare_parts(places, first[1], second[1]))


def compare_parts(places, first, second):
    """-1, 0 or 1: how the first cells compare to the second ones by pairs (place, descending)."""
    for place, descending in places:
        a, b = first[place], second[place]
        found = compare_cells(a, b)
        if found != 0:
            # A missing cell comes last in both directions.
            return -found if descending and a is not None and b is not None else found
    return 0


def key_names(keys):
    """The names of the columns of the keys, a tuple."""
    return tuple([name for name, _ in keys])
