"""Rebuilding the rows of layers from what is read of them, and finding the row at a pixel."""

from chartspec.channels import can_read, shown_channels
from chartspec.checking import last_columns
from chartspec.errors import NotReadable
from chartspec.fractions import ZERO, ceiling_of, compare, floor_of, minus, over, plus
from chartspec.layers import shown_column
from chartspec.marks import mark_role
from chartspec.pictures import on_page
from chartspec.readings import read_layer
from chartspec.scenes import paint_of

ONE = (1, 1)


def simplest(span):
    """The simplest fraction of a span."""
    low, high, closed = span
    if compare(low, ZERO) >= 0:
        return simplest_between(low, high, True, closed)
    if compare(high, ZERO) > 0:
        return ZERO
    # Below 0 the fraction nearest to 0 is the greatest one, so the span is looked at from the other side.
    return minus(ZERO, simplest_between(minus(ZERO, high), minus(ZERO, low), closed, True))


def simplest_between(low, high, low_in, high_in):
    """The fraction with the least denominator, and with the least value of several, from 0 <= low < high on.

    `low_in` and `high_in` tell whether the ends belong to the fractions.
    """
    wholes = []
    whole = first_whole(low, low_in)
    # Without an integer below the high end all fractions share their integer part, and 1 over the rest of the simplest
    # one is the simplest fraction between 1 over the rests of the ends; an end without a rest becomes None, no end.
    while high is not None and compare(whole, high) >= 0:
        part = (floor_of(low), 1)
        wholes.append(part)
        low, high = over(ONE, minus(high, part)), (None if low == part else over(ONE, minus(low, part)))
        low_in, high_in = high_in, low_in
        whole = first_whole(low, low_in)
    found = whole
    for part in reversed(wholes):
        found = plus(part, over(ONE, found))
    return found


def first_whole(low, low_in):
    """The least integer from `low` on, a fraction, or behind it if it does not belong to the fractions."""
    found = (ceiling_of(low), 1)
    return plus(found, ONE) if found == low and not low_in else found


def rebuilt(scene, spec, number, layer):
    """The rebuilt rows of a layer, tuples of cells. Raises NotReadable."""
    found = spec[2][number][6][layer]
    channels = shown_channels(found)
    shown = [shown_column(found, channel) for channel in channels]
    for at, channel in enumerate(channels):
        if not can_read(spec, number, channel) or shown[at] in shown[:at]:
            raise NotReadable(channel)
    columns = last_columns(spec, number, layer)
    return tuple([rebuilt_cells(columns, shown, row) for row in read_layer(scene, spec, number, layer)])


def rebuilt_cells(columns, shown, row):
    """The cells of a row as it is read, whose places show the columns with the names of `shown`."""
    # A line has one place more, for its series.
    found = dict(zip(shown, row))
    return tuple([plain_cell(found.get(name)) for name, _ in columns])


def plain_cell(found):
    """What is read of a channel as a cell: the simplest fraction if it is a span."""
    return simplest(found) if isinstance(found, tuple) and len(found) == 3 else found


def row_at(scene, spec, x, y):
    """The row at a pixel of the scene, (number, layer, index, row), or None."""
    if not on_page(scene, x, y):
        return None
    painting = [at for at, item in enumerate(scene[2]) if paint_of(item, x, y) is not None]
    return row_of_item(scene, spec, painting[-1]) if painting else None


def row_of_item(scene, spec, place):
    """The row that the primitive at a place of the scene shows, in the form of row_at, or None."""
    plot, role = scene[2][place][:2]
    for number, view in enumerate(spec[2]):
        for layer, found in enumerate(view[6]):
            if plot == number and role == mark_role(layer) and found[2] != "line":
                # Without keys only its place tells a primitive from others.
                index = len([item for item in scene[2][:place] if item[:2] == (plot, role)])
                return (number, layer, index, read_layer(scene, spec, number, layer)[index])
    return None
