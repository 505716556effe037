"""Rows that are drawn alike, which show that a channel cannot be read."""

from chartspec.channels import can_read, shown_channels
from chartspec.checking import last_columns
from chartspec.drawing import plain_sketch
from chartspec.errors import NotDecided
from chartspec.fitted import declared_domain, is_declared
from chartspec.fractions import compare, floor_of
from chartspec.frames import axis_ruler
from chartspec.guides import frame_of
from chartspec.layers import CHANNEL_SCALES, channel_words, scale_of, shown_column
from chartspec.marks import mark_role
from chartspec.rulers import pixel, report_at
from chartspec.scenes import keyless
from chartspec.tables import column_kind

# Two cells of each kind.
PAIRS = {"number": ((1, 1), (10, 1)), "text": ("a", "b"), "boolean": (False, True)}


def single_sketch(spec, number, cells):
    """The single sketch of a row of cells, a tuple of primitives without keys."""
    tables = ((last_columns(spec, number, 0), ((((1, 1),), cells, (1,)),)),)
    return keyless(plain_sketch(spec[2][number], tables, frame_of(spec, number, tables)))


def drawn_alike(spec, number, first, second):
    """True if the two rows of cells are drawn alike, otherwise False."""
    found = single_sketch(spec, number, first)
    # Sketches that are the same draw both rows or neither.
    return found == single_sketch(spec, number, second) and any([item[1] == mark_role(0) for item in found])


def full_report(frame, channel, cell):
    """The full report of a cell by a channel: "below", "above", a span or the cell itself."""
    if channel not in ("x", "x2", "y", "y2") or axis_ruler(frame, channel)[0] == "band":
        return cell
    ruler = axis_ruler(frame, channel)
    low, high = ruler[1]
    if compare(cell, low) < 0:
        return "below"
    return "above" if compare(cell, high) > 0 else report_at(ruler, pixel(ruler, cell))


def alike(spec, number, channel):
    """The first and the second row of a channel that cannot be read, a pair of tuples of cells. Raises NotDecided."""
    word = undecided(spec, number, channel)
    if word is not None:
        raise NotDecided(word)
    columns = last_columns(spec, number, 0)
    layer = spec[2][number][6][0]
    first, second = {}, {}
    for other in shown_channels(layer):
        name = shown_column(layer, other)
        kind = column_kind(columns, name)
        first[name], second[name] = cells_for(spec, number, channel, other, kind)
    return tuple([tuple([found.get(column) for column, _ in columns]) for found in (first, second)])


def undecided(spec, number, channel):
    """The word for which there are no two rows for a channel, or None if there are."""
    layers = spec[2][number][6]
    if len(layers) != 1:
        return "layers"
    channels = shown_channels(layers[0])
    if channel not in channels or can_read(spec, number, channel):
        return "channel"
    if len(channels) < len(channel_words(layers[0])):
        return "constant"
    names = [shown_column(layers[0], other) for other in channels]
    return "column" if len(set(names)) < len(names) else None


def cells_for(spec, number, channel, other, kind):
    """The cells of the first and the second row in the column of this kind that the channel `other` shows."""
    word = CHANNEL_SCALES.get(other)
    scale = None if word is None else scale_of(spec[2][number], word)
    declared = scale is not None and is_declared(scale)
    if other == channel or word is not None and word == CHANNEL_SCALES.get(channel):
        # Of the scales with a declared domain only linear ones cannot be read.
        return pair_below(declared_domain(scale)[0]) if declared else PAIRS[kind]
    cell = declared_domain(scale)[0] if declared else PAIRS[kind][0]
    return (cell, cell)


def pair_below(low):
    """The pair of values for a linear scale whose declared domain begins here."""
    return (low, (floor_of(low) - 1, 1))
