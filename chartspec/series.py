"""The primitives of layers, and the series of the rows that lines connect."""

from chartspec.cells import key_text
from chartspec.frames import frame_size, plot_rectangle
from chartspec.layers import channel_cell
from chartspec.marks import mark_role, point_places, row_color, row_mark


def series_of(layer, columns, row):
    """The pair of the cells of the channels color and detail in a row."""
    return tuple([channel_cell(layer, columns, row[1], channel) for channel in ("color", "detail")])


def layer_marks(frame, number, layer, table):
    """The primitives of the layer with this number for a table, a tuple."""
    if layer[2] == "line":
        return tuple([line_mark(frame, number, layer, table[0], rows) for rows in drawn_series(frame, layer, table)])
    marks = [row_mark(frame, number, layer, table[0], row) for row in table[1]]
    return tuple([mark for mark in marks if mark is not None])


def drawn_series(frame, layer, table):
    """The drawn rows of a layer with lines, a list of lists: series by series in the order of their first rows."""
    columns, rows = table
    found = {}
    for row in rows:
        if has_point(frame, layer, columns, row[1]):
            found.setdefault(series_of(layer, columns, row), []).append(row)
    return list(found.values())


def has_point(frame, layer, columns, cells):
    """True if a row with these cells has a point of a line, otherwise False."""
    color = row_color(frame, layer, columns, cells)
    return color is not None and None not in point_places(frame, layer, columns, cells)


def line_mark(frame, number, layer, columns, rows):
    """The polyline through the points of the rows of a series, all of which have one."""
    _, height = frame_size(frame)
    points = ()
    for _, cells, _ in rows:
        x, y = point_places(frame, layer, columns, cells)
        points = points + (x, height - y)
    color = row_color(frame, layer, columns, rows[0][1])
    key = key_text(series_of(layer, columns, rows[0]))
    return (frame[0], mark_role(number), key, "polyline", points, "", None, color, plot_rectangle(frame))
