"""Drawing specifications: sketches of plots, and scenes."""

from chartspec.colors import BLACK, WHITE
from chartspec.guides import frame_of, guides_in
from chartspec.layout import outline_of, page_of
from chartspec.series import layer_marks
from chartspec.tables import data_table
from chartspec.tags import label_marks
from chartspec.transforms import transformed


def layer_tables(spec, data, number):
    """The last tables of the layers of a view, a tuple."""
    return tuple([last_table(spec, data, layer) for layer in spec[2][number][6]])


def last_table(spec, data, layer):
    """The last table of a layer."""
    place = [name for name, _ in spec[1]].index(layer[0])
    table = data_table(spec[1][place][1], data[place])
    for transform in layer[1]:
        table = transformed(table, transform)
    return table


def sketch(spec, number, tables):
    """The sketch of the plot of a view for the last tables of its layers, a tuple. Raises TooManyCategories."""
    view = spec[2][number]
    framed = frame_of(spec, number, tables)
    return plain_sketch(view, tables, framed) + all_labels(view, tables, framed)


def plain_sketch(view, tables, framed):
    """The sketch of a view without the labels of marks, by its frame and the ticks of its axes."""
    before, after = guides_in(view, framed)
    marks = ()
    for number, (layer, table) in enumerate(zip(view[6], tables)):
        marks = marks + layer_marks(framed[0], number, layer, table)
    return before + marks + after


def all_labels(view, tables, framed):
    """The labels of marks of a view, layer by layer, a tuple."""
    found = ()
    for number in range(len(view[6])):
        found = found + label_marks(framed[0], view[6], tables, number)
    return found


def draw(spec, data):
    """The scene of a specification and data. Raises TooManyCategories."""
    title, _, views, rows = spec
    outlines, sketches = [], []
    for number, view in enumerate(views):
        tables = layer_tables(spec, data, number)
        framed = frame_of(spec, number, tables)
        before, after = guides_in(view, framed)
        outlines.append(outline_of(framed[0], before + after))
        sketches.append(plain_sketch(view, tables, framed) + all_labels(view, tables, framed))
    size, places = page_of(title, tuple([tuple([outlines[each] for each in row]) for row in rows]))
    items = page_parts(title, size)
    for row, found in zip(rows, places):
        for at, place in zip(row, found):
            items = items + shifted(sketches[at], place)
    return size + (items,)


def page_parts(title, size):
    """The background of a page of this size and the title of the chart, if there is one."""
    background = (None, "background", "", "rectangle", (0, 0) + size, "", WHITE, None, None)
    if title == "":
        return (background,)
    return (background, (None, "title", "", "text start", (10, 10), title, BLACK, None, None))


def shifted(items, place):
    """The primitives of a tuple, moved so that (0, 0) becomes a place."""
    return tuple([item[:4] + (shifted_points(item[3], item[4], place),) + item[5:8] + (shifted_clip(item[8], place),)
                  for item in items])


def shifted_points(shape, points, place):
    """The points of a shape, moved so that (0, 0) becomes a place."""
    # Behind the first two numbers all shapes but lines have sizes, which stay.
    many = len(points) if shape in ("line", "polyline") else 2
    return tuple([number + place[at & 1] for at, number in enumerate(points[:many])]) + points[many:]


def shifted_clip(clip, place):
    """The clip, moved so that (0, 0) becomes a place, or None if there is none."""
    return None if clip is None else shifted_points("rectangle", clip, place)
