"""Reports of what drawings show of the rows."""

from chartspec.channels import can_read, shown_channels
from chartspec.drawing import layer_tables
from chartspec.frames import axis_ruler
from chartspec.guides import frame_of
from chartspec.layers import channel_cell
from chartspec.marks import row_mark
from chartspec.rulers import pixel, report_at
from chartspec.series import drawn_series


def report_rows(spec, number, layer, frame, table):
    """The report of a layer of a view, drawn in the frame from the table, a tuple."""
    found = spec[2][number][6][layer]
    channels = [(channel, can_read(spec, number, channel)) for channel in shown_channels(found)]
    columns = table[0]
    if found[2] == "line":
        return tuple([report_row(frame, found, columns, row, channels) + (at,)
                      for at, rows in enumerate(drawn_series(frame, found, table)) for row in rows])
    return tuple([report_row(frame, found, columns, row, channels) for row in table[1]
                  if row_mark(frame, layer, found, columns, row) is not None])


def reported(spec, data):
    """The report of the chart. Raises TooManyCategories."""
    return tuple([view_report(spec, data, number) for number in range(len(spec[2]))])


def view_report(spec, data, number):
    """The report of a view, a tuple with the report of each of its layers."""
    tables = layer_tables(spec, data, number)
    frame = frame_of(spec, number, tables)[0]
    return tuple([report_rows(spec, number, layer, frame, table) for layer, table in enumerate(tables)])


def report_row(frame, layer, columns, row, channels):
    """What is reported of a drawn row: a place for each of the pairs (channel, can be read)."""
    return tuple([reported_cell(frame, channel, channel_cell(layer, columns, row[1], channel)) if readable else None
                  for channel, readable in channels])


def reported_cell(frame, channel, cell):
    """The report of the pixel of a cell that x, x2, y or y2 shows; the cell itself for other channels."""
    if channel not in ("x", "x2", "y", "y2"):
        return cell
    ruler = axis_ruler(frame, channel)
    return report_at(ruler, pixel(ruler, cell))
