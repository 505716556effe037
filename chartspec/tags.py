"""The labels of marks."""

from chartspec.cells import cell_text, key_text
from chartspec.colors import BLACK, text_color
from chartspec.frames import plot_rectangle
from chartspec.marks import row_mark
from chartspec.orders import ordered
from chartspec.placing import place_labels
from chartspec.scenes import surrounding, surroundings
from chartspec.series import layer_marks
from chartspec.tables import column_place
from chartspec.texts import TEXT_HEIGHT, text_width

MOST_LABELS = 16


def side_rectangle(around, side, width):
    """The rectangle of a side for a text of this width, beside or within a rectangle around a primitive."""
    left, top, wide, high = around
    x, y = left + wide // 2 - width // 2, top + high // 2 - 3
    if side == "above":
        y = top - 9
    elif side == "below":
        y = top + high + 2
    elif side == "left":
        x = left - 2 - width
    elif side == "right":
        x = left + wide + 2
    return (x, y, width, TEXT_HEIGHT)


def label_problem(frame, layers, tables, number):
    """The problem of the labels of the layer with this number."""
    return problem_beside(frame, layers, tables, number, kept_before(frame, layers, tables, number))


def labels_of(frame, layers, tables, number):
    """The labels (key, text, first, second, place) of the layer with this number, a tuple."""
    task = label_problem(frame, layers, tables, number)
    return tuple([(key_text(row[0]), text, first, second, place) for (row, _, text), (first, second), place
                  in zip(tagged(frame, layers, tables, number), task[2], place_labels(task))])


def label_marks(frame, layers, tables, number):
    """The primitives of the kept labels of the layer with this number, a tuple."""
    found = []
    labels = labels_of(frame, layers, tables, number)
    for (key, text, first, second, place), (_, mark, _) in zip(labels, tagged(frame, layers, tables, number)):
        if place in (0, 1):
            left, top, _, _ = (first, second)[place]
            fill = label_fill(layers[number][5][2 + place], mark)
            found.append((frame[0], f"label {number}", key, "text start", (left, top), text, fill, None, None))
    return tuple(found)


def tagged(frame, layers, tables, number):
    """The rows of a layer with labels, triples (row, primitive, text) in the order of the labels, a tuple."""
    layer = layers[number]
    if layer[5] is None:
        return ()
    column, keys, _, _, _ = layer[5]
    columns, rows = tables[number]
    place = column_place(columns, column)
    marks = {row[0]: row_mark(frame, number, layer, columns, row) for row in rows}
    shown = tuple([row for row in rows if marks[row[0]] is not None and row[1][place] is not None])
    first = ordered(columns, shown, keys)[:MOST_LABELS]
    return tuple([(row, marks[row[0]], cell_text(row[1][place])) for row in first])


def problem_beside(frame, layers, tables, number, taken):
    """The problem of the labels of a layer, where the labels of earlier layers have taken some rectangles."""
    label = layers[number][5]
    if label is None:
        return (plot_rectangle(frame), taken, ())
    _, _, first, second, avoid = label
    obstacles = ()
    for other in avoid:
        obstacles = obstacles + surroundings(layer_marks(frame, other, layers[other], tables[other]))
    pairs = [tuple([side_rectangle(surrounding(mark), side, text_width(text)) for side in (first, second)])
             for _, mark, text in tagged(frame, layers, tables, number)]
    return (plot_rectangle(frame), obstacles + taken, tuple(pairs))


def kept_before(frame, layers, tables, number):
    """The rectangles in which the kept labels of the layers before one are drawn, a tuple."""
    taken = ()
    for earlier in range(number):
        task = problem_beside(frame, layers, tables, earlier, taken)
        taken = taken + tuple([label[place] for label, place in zip(task[2], place_labels(task)) if place in (0, 1)])
    return taken


def label_fill(side, mark):
    """The fill of a label on a side of a primitive."""
    fill = mark[6]
    return BLACK if side != "center" or fill is None else text_color(fill)
