"""Stacking the numbers of a column."""

from chartspec.fractions import ZERO, as_number, compare, plus
from chartspec.orders import ordered
from chartspec.tables import column_cells, rows_by_part, span_columns, with_columns


def stacked(table, column, over, keys, low, high):
    """The table after stacking a column within the rows with equal cells in the columns of `over`."""
    columns, rows = table
    spans = {}
    for partition in rows_by_part(columns, rows, over).values():
        members = ordered(columns, tuple(partition), keys)
        numbers = [ZERO if cell is None else cell for cell in column_cells(columns, members, column)]
        for (key, _, _), span in zip(members, spans_of(numbers)):
            spans[key] = span
    return with_columns(table, span_columns(low, high), [spans[key] for key, _, _ in rows])


def spans_of(numbers):
    """The pair (low, high) of each number, when each is put on the sum of those of its side before it."""
    below, above = ZERO, ZERO
    spans = []
    for number in numbers:
        # The sums stay exact; only what is put into a row has to be a number.
        if compare(number, ZERO) < 0:
            end = plus(below, number)
            spans.append((as_number(end), as_number(below)))
            below = end
        else:
            end = plus(above, number)
            spans.append((as_number(above), as_number(end)))
            above = end
    return spans
