"""The guides of plots: titles, grid lines, axes and legends; and the frames that they belong to."""

from chartspec.cells import cell_text, key_text
from chartspec.colors import BLACK, GRAY, LIGHT_GRAY, palette_colors
from chartspec.fitted import fitted_categories
from chartspec.frames import frame_size
from chartspec.layers import channel_cell, scale_channels, shown_column, source_of
from chartspec.rectangles import edges
from chartspec.scenes import surroundings
from chartspec.texts import text_width
from chartspec.ticks import axis_of

# How far below one another the titles, the lines of labels of the x axis, and the entries of a legend stand.
TITLE_STEP = 12
LINE_STEP = 9
ENTRY_STEP = 12


def shown_cells(layers, tables, channels):
    """The cells of the channels in all rows of the tables of the layers, a tuple."""
    found = []
    for layer, (columns, rows) in zip(layers, tables):
        given = [channel for channel in channels if source_of(layer, channel) is not None]
        for _, cells, _ in rows:
            found.extend([channel_cell(layer, columns, cells, channel) for channel in given])
    return tuple(found)


def frame_of(spec, number, tables):
    """The frame of the plot of a view, the ticks of its x axis and those of its y axis. Raises TooManyCategories."""
    _, _, (width, height), x, y, color, layers = spec[2][number]
    across, up, colored = [shown_cells(layers, tables, scale_channels(scale)) for scale in ("x", "y", "color")]
    x_ruler, x_ticks = axis_of(x, across, width)
    y_ruler, y_ticks = axis_of(y, up, height, vertical=True)
    return ((number, x_ruler, y_ruler, color[0], fitted_categories(color, colored)), x_ticks, y_ticks)


def guides_of(spec, number, tables):
    """The titles and grid lines of a plot, and its axes and legend, a pair of tuples. Raises TooManyCategories."""
    return guides_in(spec[2][number], frame_of(spec, number, tables))


def guides_in(view, framed):
    """The guides of a view, a pair of tuples, by its frame and the ticks of its axes."""
    frame, x_ticks, y_ticks = framed
    x_guides = x_axis_guides(view, frame, x_ticks)
    lines = grid_lines(view, frame, x_ticks, y_ticks)
    return (titles(view, frame) + lines, x_guides + y_axis_guides(view, frame, y_ticks) + legend(view, frame, x_guides))


def text_guide(frame, role, shape, place, text, key=""):
    """A text as a guide."""
    return (frame[0], role, key, shape, place, text, BLACK, None, None)


def line_guide(frame, role, points, color, key=""):
    """A line as a guide."""
    return (frame[0], role, key, "line", points, "", None, color, None)


def tick_key(tick):
    """The key of what belongs to a tick."""
    return key_text((tick[1],))


def titles(view, frame):
    """The title of the y axis and that of the view, as far as there are such titles."""
    axis = view[4][5]
    named = (("y axis title", "" if axis is None else axis[0]), ("panel title", view[1]))
    given = [(role, text) for role, text in named if text != ""]
    return tuple([text_guide(frame, role, "text start", (0, -TITLE_STEP * (number + 1)), text)
                  for number, (role, text) in enumerate(given)])


def grid_lines(view, frame, x_ticks, y_ticks):
    """The grid lines of the x axis, then those of the y axis."""
    width, height = frame_size(frame)
    found = []
    if has_grid(view[3]):
        for tick in x_ticks:
            found.append(line_guide(frame, "x grid", (tick[0], 0, tick[0], height), LIGHT_GRAY, tick_key(tick)))
    if has_grid(view[4]):
        for tick in y_ticks:
            y = height - tick[0]
            found.append(line_guide(frame, "y grid", (0, y, width, y), LIGHT_GRAY, tick_key(tick)))
    return tuple(found)


def has_grid(scale):
    """True if the axis of the scale is shown with grid lines, otherwise False."""
    return scale[5] is not None and scale[5][1]


def x_axis_guides(view, frame, ticks):
    """The primitives of the x axis, () if it is hidden."""
    axis = view[3][5]
    if axis is None:
        return ()
    width, height = frame_size(frame)
    found = [line_guide(frame, "x axis", (0, height, width, height), GRAY)]
    for tick in ticks:
        found.append(line_guide(frame, "x tick", (tick[0], height, tick[0], height + 4), GRAY, tick_key(tick)))
    for tick in ticks:
        place = (tick[0], height + 6 + LINE_STEP * tick[3])
        found.append(text_guide(frame, "x tick label", "text middle", place, tick[2], tick_key(tick)))
    if axis[0] != "":
        lines = 1 + max([line for _, _, _, line in ticks], default=0)
        place = (width // 2, height + 8 + LINE_STEP * lines)
        found.append(text_guide(frame, "x axis title", "text middle", place, axis[0]))
    return tuple(found)


def y_axis_guides(view, frame, ticks):
    """The primitives of the y axis without its title, () if it is hidden."""
    if view[4][5] is None:
        return ()
    _, height = frame_size(frame)
    found = [line_guide(frame, "y axis", (0, 0, 0, height), GRAY)]
    for tick in ticks:
        y = height - tick[0]
        found.append(line_guide(frame, "y tick", (-4, y, 0, y), GRAY, tick_key(tick)))
    ends = label_ends(ticks)
    for tick in ticks:
        place = (ends[tick[3]], height - tick[0] - 3)
        found.append(text_guide(frame, "y tick label", "text end", place, tick[2], tick_key(tick)))
    return tuple(found)


def label_ends(ticks):
    """The right ends of the labels of the y axis in each line, a list."""
    ends = [-6]
    for line in range(max([tick[3] for tick in ticks], default=0)):
        widest = max([text_width(label) for _, _, label, found in ticks if found == line])
        ends.append(ends[-1] - widest - 6)
    return ends


def legend(view, frame, x_guides):
    """The primitives of the legend, to the right of the primitives of the x axis; () if it is not there."""
    title = view[5][2]
    if title is None or not any([shown_column(layer, "color") is not None for layer in view[6]]):
        return ()
    width, _ = frame_size(frame)
    left = 12 + max([width + 1] + [edges(box)[2] for box in surroundings(x_guides)])
    found = [] if title == "" else [text_guide(frame, "legend title", "text start", (left, 0), title)]
    top = len(found) * ENTRY_STEP
    _, _, _, palette, categories = frame
    # There are as many entries as both categories and colors.
    for number, (category, color) in enumerate(zip(categories, palette_colors(palette))):
        z, key = top + ENTRY_STEP * number, key_text((category,))
        found.append((frame[0], "legend mark", key, "rectangle", (left, z, 10, 7), "", color, None, None))
        found.append(text_guide(frame, "legend label", "text start", (left + 16, z), cell_text(category), key))
    return tuple(found)
