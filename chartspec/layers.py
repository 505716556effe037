"""Layers (table, transforms, mark, channels, paint, label): their marks and the channels of these."""

from chartspec.cells import cell_kind
from chartspec.tables import column_kind, column_place

# The channels of each mark.
MARK_CHANNELS = {
    "point": ("x", "y", "color"),
    "bar": ("x", "y", "x2", "y2", "color"),
    "line": ("x", "y", "color", "detail"),
    "rule": ("x", "x2", "y", "y2", "color"),
    "text": ("x", "y", "text", "color"),
}

# The scale that shows a channel; text and detail are shown by none.
CHANNEL_SCALES = {"x": "x", "x2": "x", "y": "y", "y2": "y", "color": "color"}


def channel_words(layer):
    """The channels that a layer gives, a tuple in their order."""
    return tuple([channel for channel, _ in layer[3]])


def source_of(layer, channel):
    """The source of a channel, or None if the layer does not have the channel."""
    return dict(layer[3]).get(channel)


def shown_column(layer, channel):
    """The name of the column that a channel of the layer shows, or None if it shows none."""
    source = source_of(layer, channel)
    if source is None or source[0] != "column":
        return None
    return source[1]


def channel_cell(layer, columns, cells, channel):
    """The cell of a channel in a row with these cells; missing if the layer does not have the channel."""
    source = source_of(layer, channel)
    if source is None:
        return None
    word, found = source
    return cells[column_place(columns, found)] if word == "column" else found


def scale_channels(scale):
    """The channels that the scale "x", "y" or "color" shows, a tuple."""
    return tuple([channel for channel in CHANNEL_SCALES if CHANNEL_SCALES[channel] == scale])


def needed_channels(layer):
    """The channels that the mark of a layer needs, a tuple."""
    if layer[2] == "text":
        return ("x", "y", "text")
    given = channel_words(layer)
    if layer[2] == "rule" and "x2" not in given and "y2" not in given:
        return () if "y" in given else ("x",)
    return ("x", "y")


def source_kind(columns, source):
    """The kind of the column or of the constant of a source, or None if there is no such column."""
    word, found = source
    return column_kind(columns, found) if word == "column" else cell_kind(found)


def scale_of(view, scale):
    """The scale "x", "y" or "color" of a view."""
    _, _, _, x, y, color, _ = view
    scales = {"x": x, "y": y, "color": color}
    return scales[scale]
