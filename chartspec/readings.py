"""Reading scenes back: what they show of the rows, from the primitives and the specification alone."""

from chartspec.cells import read_cell
from chartspec.channels import can_read, shown_channels
from chartspec.checking import last_columns, scale_kind
from chartspec.colors import palette_colors
from chartspec.fitted import declared_domain, is_declared
from chartspec.formats import read_label
from chartspec.fractions import ZERO
from chartspec.frames import axis_ruler, is_horizontal
from chartspec.layers import scale_of, shown_column, source_of
from chartspec.marks import mark_role
from chartspec.rulers import nearest, report_at
from chartspec.scenes import main_color
from chartspec.tables import column_kind
from chartspec.ticks import ruler_of

MARK_ROLES = ("mark 0", "mark 1", "mark 2", "mark 3")


def plot_area(scene, number):
    """The plot area of a view in the scene, or None."""
    for item in scene[2]:
        if item[0] == number and item[1] in MARK_ROLES:
            return item[8]
    return None


def read_ruler(scene, spec, number, axis):
    """The ruler that is read for the axis "x" or "y", or None."""
    view = spec[2][number]
    scale = scale_of(view, axis)
    length = view[2][0 if axis == "x" else 1]
    if is_declared(scale):
        return ruler_of(scale, declared_domain(scale), length)
    if scale[5] is None:
        return None
    labels = texts_of(scene, number, f"{axis} tick label")
    if scale[2]:
        labels = labels[::-1]
    if scale[0] == "band":
        return ruler_of(scale, denoted_cells(labels, scale_kind(spec, number, axis)), length)
    style = scale[5][2]
    return ruler_of(scale, (read_label(labels[0], style), read_label(labels[-1], style)), length)


def read_categories(scene, spec, number):
    """The categories that are read for the color scale of a view, a tuple."""
    color = scale_of(spec[2][number], "color")
    if is_declared(color):
        return declared_domain(color)
    return denoted_cells(texts_of(scene, number, "legend label"), scale_kind(spec, number, "color"))


def read_frame(scene, spec, number):
    """The frame that is read for a view; a ruler that is not read is None."""
    x, y = read_ruler(scene, spec, number, "x"), read_ruler(scene, spec, number, "y")
    return (number, x, y, spec[2][number][5][0], read_categories(scene, spec, number))


def read_layer(scene, spec, number, layer):
    """The rows that are read for a layer, a tuple."""
    area = plot_area(scene, number)
    if area is None:
        return ()
    view, frame = spec[2][number], read_frame(scene, spec, number)
    found = view[6][layer]
    columns = last_columns(spec, number, layer)
    channels = shown_channels(found)
    rows = []
    for series, item in enumerate(items_of(scene, number, mark_role(layer))):
        for places in mark_pixels(view, frame, found, item, area):
            cells = tuple([read_channel(frame, found, columns, item, places, channel)
                           if can_read(spec, number, channel) else None for channel in channels])
            rows.append(cells + (series,) if found[2] == "line" else cells)
    return tuple(rows)


def read_back(scene, spec):
    """What is read for the whole chart, in the form of a report."""
    return tuple([tuple([read_layer(scene, spec, number, layer) for layer in range(len(view[6]))])
                  for number, view in enumerate(spec[2])])


def items_of(scene, number, role):
    """The primitives of a plot with this role, a list in the order of the scene."""
    return [item for item in scene[2] if item[0] == number and item[1] == role]


def texts_of(scene, number, role):
    """The texts of the primitives of a plot with this role, a list in the order of the scene."""
    return [item[5] for item in items_of(scene, number, role)]


def denoted_cells(texts, kind):
    """The cells of a kind that some texts denote, a tuple."""
    return tuple([read_cell(text, kind) for text in texts])


def read_channel(frame, layer, columns, item, places, channel):
    """What is read of a channel that can be read from a mark with these pixels."""
    if channel in places:
        return report_at(axis_ruler(frame, channel), places[channel])
    if channel == "color":
        _, _, _, palette, categories = frame
        return categories[palette_colors(palette).index(main_color(item))]
    return read_cell(item[5], column_kind(columns, shown_column(layer, channel)))


def mark_pixels(view, frame, layer, item, area):
    """The pixels of the rows that a mark shows, a list with a dict by the channels x, y, x2 and y2 for each row."""
    mark, points = layer[2], item[4]
    if mark == "bar":
        return [bar_pixels(view, frame, layer, points, area)]
    if mark == "rule":
        return [rule_pixels(points, area)]
    if mark == "line":
        return [point_pixels(points[at:at + 2], area) for at in range(0, len(points), 2)]
    x, y = points[:2]
    # A text is drawn above its place.
    return [point_pixels((x, y + 3) if mark == "text" else (x, y), area)]


def point_pixels(point, area):
    """The pixels of x and y at a point of the page, a dict."""
    left, top, _, height = area
    x, y = point
    return {"x": x - left, "y": height - 1 - (y - top)}


def rule_pixels(points, area):
    """The pixels of the channels of a rule, a dict; those that the layer does not have play no part."""
    first, second = point_pixels(points[:2], area), point_pixels(points[2:], area)
    return {"x": first["x"], "y": first["y"], "x2": second["x"], "y2": second["y"]}


def bar_pixels(view, frame, layer, points, area):
    """The pixels of the channels of a bar, a dict."""
    left, top, width, height = points
    start, after = point_pixels((left, top + height), area), point_pixels((left + width, top), area)
    across, along = ("x", "x2"), ("y", "y2")
    if is_horizontal(view[3], view[4]):
        across, along = along, across
    found = across_pixels(scale_of(view, across[0]), start[across[0]], after[across[0]], across)
    found.update(along_pixels(view, frame, layer, (start[along[0]], after[along[0]]), along))
    return found


def across_pixels(scale, low, high, channels):
    """The pixels of the two channels of a bar across between two pixels of this scale, a dict."""
    first, second = channels
    if scale[0] == "band":
        return {first: low}
    return {first: high, second: low} if scale[2] else {first: low, second: high}


def along_pixels(view, frame, layer, pair, channels):
    """The pixels of the two channels of a bar along between a pair of pixels, a dict."""
    low, high = pair
    value, other = channels
    if source_of(layer, other) is not None:
        return across_pixels(scale_of(view, value), low, high, (other, value))
    ruler = axis_ruler(frame, value)
    # Without a ruler the channel cannot be read, and its pixel plays no part.
    return {value: high if ruler is not None and low == nearest(ruler, ZERO) else low}
