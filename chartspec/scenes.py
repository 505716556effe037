"""Scenes and their primitives (plot, role, key, shape, points, text, fill, stroke, clip)."""

from chartspec.rectangles import common, contains
from chartspec.shapes import around, covers


def identity(primitive):
    """The identity (plot, role, key) of a primitive."""
    return primitive[:3]


def identities(items):
    """The identities of some primitives, a tuple in their order."""
    return tuple([identity(item) for item in items])


def is_keyed(scene):
    """True if no two primitives of the scene have the same identity, otherwise False."""
    names = identities(scene[2])
    return len(set(names)) == len(names)


def without_keys(scene):
    """The same scene with the empty string as the key of every primitive."""
    width, height, items = scene
    return (width, height, keyless(items))


def keyless(items):
    """The same primitives with the empty string as the key of each."""
    return tuple([item[:2] + ("",) + item[3:] for item in items])


def surrounding(primitive):
    """The rectangle around the shape of the primitive, whatever its clip."""
    _, _, _, shape, points, text, _, _, _ = primitive
    return around(shape, points, text)


def surroundings(items):
    """The rectangles around the shapes of some primitives, a tuple in their order."""
    return tuple([surrounding(item) for item in items])


def reach(primitive):
    """The rectangle outside of which the primitive paints nothing, or None if that has no pixel."""
    box, clip = surrounding(primitive), primitive[8]
    # The common part of a rectangle and itself is None just if the rectangle is empty.
    return common(box, box if clip is None else clip)


def visible_part(scene, primitive):
    """The common part of the reach of a primitive and the page of the scene, or None."""
    part = reach(primitive)
    if part is None:
        return None
    width, height, _ = scene
    return common(part, (0, 0, width, height))


def main_color(primitive):
    """The color in which the primitive paints, or None: the stroke of lines, the fill of all other shapes."""
    _, _, _, shape, _, _, fill, stroke, _ = primitive
    return stroke if shape in ("line", "polyline") else fill


def paint_of(primitive, x, y):
    """The color in which the primitive paints the pixel (x, y), or None if it does not paint it."""
    _, _, _, shape, points, text, _, _, clip = primitive
    if clip is not None and not contains(clip, x, y):
        return None
    if not covers(shape, points, text, x, y):
        return None
    return main_color(primitive)
