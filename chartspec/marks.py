"""The marks of single rows: points, texts, rules and bars."""

from chartspec.cells import cell_text, compare_cells, key_text
from chartspec.colors import color_of
from chartspec.fractions import ZERO
from chartspec.frames import axis_ruler, frame_size, is_horizontal, plot_rectangle
from chartspec.layers import channel_cell, source_of
from chartspec.rulers import band, nearest, pixel

POINT_RADIUS = 3


def row_color(frame, layer, columns, cells):
    """The color of a row with these cells, or None."""
    if source_of(layer, "color") is None:
        return layer[4]
    _, _, _, palette, categories = frame
    return color_of(palette, categories, channel_cell(layer, columns, cells, "color"))


def row_mark(frame, number, layer, columns, row):
    """The primitive of a row in the layer with this number, which draws no lines, or None if it is not drawn."""
    key, cells, _ = row
    color, text = row_color(frame, layer, columns, cells), mark_text(layer, columns, cells)
    places = mark_places(frame, layer, columns, cells)
    if color is None or text is None or None in places:
        return None
    shape, points = mark_shape(frame, layer, places)
    fill, stroke = (None, color) if shape == "line" else (color, None)
    return (frame[0], mark_role(number), key_text(key), shape, points, text, fill, stroke, plot_rectangle(frame))


def mark_role(number):
    """The role of the marks of the layer with this number."""
    return f"mark {number}"


def mark_text(layer, columns, cells):
    """The text of a mark, empty for marks that are no texts, or None if it does not exist."""
    if layer[2] != "text":
        return ""
    cell = channel_cell(layer, columns, cells, "text")
    return None if cell is None else cell_text(cell)


def mark_places(frame, layer, columns, cells):
    """The pixels of x and y, for rules of x2 and y2, too, for bars the extents; None stands for what does not exist."""
    if layer[2] == "bar":
        return bar_extents(frame, layer, columns, cells)
    if layer[2] == "rule":
        return rule_places(frame, layer, columns, cells)
    return point_places(frame, layer, columns, cells)


def mark_shape(frame, layer, places):
    """The shape and the points of a mark with these places, all of which exist."""
    _, height = frame_size(frame)
    if layer[2] == "bar":
        (left, right), (lower, upper) = places
        return ("rectangle", (left, height - upper, right - left, upper - lower))
    if layer[2] == "rule":
        x, y, x2, y2 = places
        return ("line", (x, height - y, x2, height - y2))
    x, y = places
    if layer[2] == "text":
        return ("text middle", (x, height - y - 3))
    return ("circle", (x, height - y, POINT_RADIUS))


def channel_pixel(frame, layer, columns, cells, channel):
    """The pixel of x, x2, y or y2 in a row with these cells, or None."""
    return pixel(axis_ruler(frame, channel), channel_cell(layer, columns, cells, channel))


def point_places(frame, layer, columns, cells):
    """The pixels of x and y in a row with these cells, each None if it does not exist."""
    return tuple([channel_pixel(frame, layer, columns, cells, channel) for channel in ("x", "y")])


def rule_places(frame, layer, columns, cells):
    """The pixels of x, y, x2 and y2 of a rule, each None if it does not exist."""
    width, height = frame_size(frame)
    x, x2 = rule_ends(frame, layer, columns, cells, ("x", "x2", width))
    y, y2 = rule_ends(frame, layer, columns, cells, ("y", "y2", height))
    return (x, y, x2, y2)


def rule_ends(frame, layer, columns, cells, axis):
    """The two pixels of a rule on an axis (channel, further channel, length)."""
    channel, further, length = axis
    if source_of(layer, channel) is None:
        return (0, length)
    second = channel if source_of(layer, further) is None else further
    return tuple([channel_pixel(frame, layer, columns, cells, word) for word in (channel, second)])


def bar_extents(frame, layer, columns, cells):
    """The extents of a bar on the x ruler and on the y ruler, pairs of pixels, each None if it does not exist."""
    if is_horizontal(frame[1], frame[2]):
        return (extent_along(frame, layer, columns, cells, ("x", "x2")),
                extent_across(frame, layer, columns, cells, ("y", "y2")))
    return (extent_across(frame, layer, columns, cells, ("x", "x2")),
            extent_along(frame, layer, columns, cells, ("y", "y2")))


def extent_across(frame, layer, columns, cells, channels):
    """The extent (a, b) of a bar across on the ruler of two channels, or None."""
    first, second = [channel_cell(layer, columns, cells, channel) for channel in channels]
    ruler = axis_ruler(frame, channels[0])
    if ruler[0] != "band":
        return extent_between(ruler, first, second)
    found = band(ruler, first)
    if found is None:
        return None
    start, after = found
    rim = (after - start) // 10
    return (start + rim, after - rim)


def extent_along(frame, layer, columns, cells, channels):
    """The extent (c, d) of a bar along on the ruler of two channels, or None."""
    first, second = [channel_cell(layer, columns, cells, channel) for channel in channels]
    ruler = axis_ruler(frame, channels[0])
    if source_of(layer, channels[1]) is not None:
        return extent_between(ruler, second, first)
    place = pixel(ruler, first)
    return None if place is None else tuple(sorted((nearest(ruler, ZERO), place)))


def extent_between(ruler, low, high):
    """The pixels of two cells in ascending order, or None if one has none or `high` comes before `low`."""
    first, second = pixel(ruler, low), pixel(ruler, high)
    if first is None or second is None or compare_cells(high, low) < 0:
        return None
    return tuple(sorted((first, second)))
