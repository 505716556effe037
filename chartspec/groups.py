"""Groups of rows with equal cells, and the aggregates of their cells."""

from chartspec.cells import compare_cells, present_cells
from chartspec.fractions import ZERO, as_number, over, plus
from chartspec.orders import ordered
from chartspec.sorting import arranged
from chartspec.tables import column_cells, column_kind, rows_by_part

# The aggregates whose values are cells of the column.
PICKED = ("least", "greatest")


def aggregate(function, cells):
    """The value of an aggregate for the cells of its column, one for each row."""
    present = present_cells(cells)
    if function == "count":
        return (len(cells), 1)
    if function == "valid":
        return (len(present), 1)
    if function == "sum":
        return as_number(sum_of(present))
    if not present:
        return None
    if function == "mean":
        return as_number(mean_of(present))
    ascending = arranged(present, compare_cells)
    if function == "median":
        return as_number(mean_of(middle_of(ascending)))
    return ascending[0] if function == "least" else ascending[-1]


def sum_of(numbers):
    """The exact sum of some numbers."""
    total = ZERO
    for number in numbers:
        total = plus(total, number)
    return total


def mean_of(numbers):
    """The exact mean of one number or more."""
    return over(sum_of(numbers), (len(numbers), 1))


def middle_of(items):
    """The item in the middle of one or more, or the two in the middle."""
    return items[(len(items) - 1) // 2:len(items) // 2 + 1]


def grouped(table, columns, aggregates):
    """The table after grouping by the columns with these names, with triples (name, function, column)."""
    old, rows = table
    groups = rows_by_part(old, rows, columns)
    if not columns:
        # Without columns there is one row for all rows, even if there are none.
        groups.setdefault((), [])
    found = [grouped_row(old, key, members, aggregates) for key, members in groups.items()]
    wider = group_columns(old, columns) + aggregate_columns(old, aggregates)
    return (wider, ordered(wider, tuple(found), tuple([(name, False) for name in columns])))


def grouped_row(columns, key, members, aggregates):
    """The row for the rows of a group with these cells as its key."""
    values = [aggregate(function, aggregated_cells(columns, members, column)) for _, function, column in aggregates]
    return (key, key + tuple(values), tuple([number for _, _, sources in members for number in sources]))


def aggregated_cells(columns, rows, name):
    """The cells of the column of an aggregate in some rows; a count has no column."""
    return (None,) * len(rows) if name is None else column_cells(columns, rows, name)


def group_columns(columns, names):
    """The columns with these names, which a group keeps."""
    return tuple([(name, column_kind(columns, name)) for name in names])


def aggregate_columns(columns, aggregates):
    """The columns that the aggregates of a group add."""
    return tuple([(name, column_kind(columns, column) if function in PICKED else "number")
                  for name, function, column in aggregates])
