"""Transforms, which make a new table out of a table."""

from chartspec.errors import DuplicateName, UnknownName, WrongKind
from chartspec.expressions import columns_in, evaluate, kind_of
from chartspec.fractions import as_number, multiple_below, plus
from chartspec.groups import aggregate_columns, group_columns, grouped
from chartspec.orders import key_names, ordered
from chartspec.stacks import stacked
from chartspec.tables import column_cells, column_kind, span_columns, with_columns

# The aggregates of columns of numbers.
NUMERIC = ("sum", "mean", "median")


def columns_after(columns, transform):
    """The columns of the table after the transform. Raises UnknownName, WrongKind, DuplicateName."""
    refuse_unknown(columns, mentioned_names(transform))
    if not has_kinds(columns, transform):
        raise WrongKind(transform[0])
    found = group_columns(columns, transform[1]) if transform[0] == "group" else columns
    for name, kind in added_columns(columns, transform):
        if column_kind(found, name) is not None:
            raise DuplicateName(name)
        found = found + ((name, kind),)
    return found


def refuse_unknown(columns, names):
    """Raises UnknownName for the first of the names that no column has."""
    for name in names:
        if column_kind(columns, name) is None:
            raise UnknownName(name)


def mentioned_names(transform):
    """The names of columns that the transform mentions, a tuple."""
    word = transform[0]
    if word == "filter":
        return columns_in(transform[1])
    if word == "derive":
        return columns_in(transform[2])
    if word == "bin":
        return transform[1:2]
    if word == "sort":
        return key_names(transform[1])
    if word == "group":
        return transform[1] + tuple([column for _, _, column in transform[2] if column is not None])
    if word == "stack":
        return transform[1:2] + transform[2] + key_names(transform[3])
    return ()


def has_kinds(columns, transform):
    """True if what the transform mentions is of the kinds that it needs, otherwise False."""
    word = transform[0]
    if word == "filter":
        return kind_of(transform[1], columns) == "boolean"
    if word == "derive":
        return kind_of(transform[2], columns) is not None
    if word in ("bin", "stack"):
        return column_kind(columns, transform[1]) == "number"
    if word == "group":
        return all([column_kind(columns, column) == "number" for _, function, column in transform[2]
                    if function in NUMERIC])
    return True


def added_columns(columns, transform):
    """The columns that the transform adds, a tuple."""
    word = transform[0]
    if word == "derive":
        return ((transform[1], kind_of(transform[2], columns)),)
    if word in ("bin", "stack"):
        return span_columns(transform[-2], transform[-1])
    return aggregate_columns(columns, transform[2]) if word == "group" else ()


def transformed(table, transform):
    """The table after the transform, which is not refused for its columns."""
    word, first = transform[:2]
    columns, rows = table
    if word == "filter":
        return (columns, tuple([row for row in rows if evaluate(first, columns, row[1]) is True]))
    if word == "derive":
        values = [(evaluate(transform[2], columns, cells),) for _, cells, _ in rows]
        return with_columns(table, added_columns(columns, transform), values)
    if word == "bin":
        bins = [bin_of(cell, transform[2]) for cell in column_cells(columns, rows, first)]
        return with_columns(table, added_columns(columns, transform), bins)
    if word == "sort":
        return (columns, ordered(columns, rows, first))
    if word == "take":
        return (columns, rows[:first])
    if word == "group":
        return grouped(table, first, transform[2])
    _, column, over, keys, low, high = transform
    return stacked(table, column, over, keys, low, high)


def bin_of(cell, width):
    """The cells (low, high) of the bin of a number, both missing for a missing cell."""
    if cell is None:
        return (None, None)
    low = multiple_below(width, cell)
    return (as_number(low), as_number(plus(low, width)))
