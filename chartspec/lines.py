"""The extents of the labels of ticks along an axis, and the lines over which they are distributed."""

from chartspec.texts import text_width


def extent(place, label, *, vertical=False):
    """The pair (first, after) of the pixels of a label with this text at a pixel of the axis."""
    if vertical:
        return (place - 3, place + 4)
    width = text_width(label)
    first = place - width // 2
    return (first, first + width)


def line_count(extents, gap):
    """The number of lines for labels with these extents, which keep the distance `gap` within a line."""
    count = 1
    while not keep_distance(extents, count, gap):
        count += 1
    return count


def keep_distance(extents, count, gap):
    """True if all labels that are next to one another in one of so many lines keep their distance, otherwise False."""
    return all([later[0] >= earlier[1] + gap for earlier, later in zip(extents, extents[count:])])
