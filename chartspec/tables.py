"""Tables (columns, rows) of rows (key, cells, sources)."""


def data_table(columns, rows):
    """The table of the data of a data table, pairs (number, cells)."""
    return (columns, tuple([(((number, 1),), cells, (number,)) for number, cells in rows]))


def column_place(columns, name):
    """The number of the column with this name, or None."""
    names = [column for column, _ in columns]
    return names.index(name) if name in names else None


def column_kind(columns, name):
    """The kind of the column with this name, or None."""
    place = column_place(columns, name)
    return None if place is None else columns[place][1]


def row_part(columns, row, names):
    """The cells of a row in the columns with these names, a tuple."""
    return tuple([row[1][column_place(columns, name)] for name in names])


def rows_by_part(columns, rows, names):
    """A dict with the list of the rows, in order, for each different tuple of cells in the columns of these names."""
    found = {}
    for row in rows:
        found.setdefault(row_part(columns, row, names), []).append(row)
    return found


def column_cells(columns, rows, name):
    """The cells of the column with this name in some rows, a tuple."""
    place = column_place(columns, name)
    return tuple([cells[place] for _, cells, _ in rows])


def with_columns(table, columns, cells):
    """The table with further columns, and in each row a further tuple of cells for them."""
    old, rows = table
    wider = [(key, before + after, sources) for (key, before, sources), after in zip(rows, cells)]
    return (old + columns, tuple(wider))


def span_columns(low, high):
    """Two columns of numbers with these names."""
    return ((low, "number"), (high, "number"))
