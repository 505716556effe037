"""What the pixels of a scene show: the primitives that paint them, and their colors."""

from chartspec.rectangles import contains
from chartspec.scenes import identities, paint_of

# The color of a pixel of the page that no primitive paints.
BLANK = "#ffffff"


def hits(scene, x, y):
    """The identities of the primitives that paint the pixel, a tuple that begins with the last one painted."""
    return identities(painters(scene, x, y))


def hit(scene, x, y):
    """The identity of the last primitive that paints the pixel, or None."""
    names = hits(scene, x, y)
    return names[0] if names else None


def color_at(scene, x, y):
    """The color of the pixel, or None outside the page."""
    if not on_page(scene, x, y):
        return None
    items = painters(scene, x, y)
    return paint_of(items[0], x, y) if items else BLANK


def painters(scene, x, y):
    """The primitives that paint a pixel of the page, a list that begins with the last one painted."""
    if not on_page(scene, x, y):
        return []
    return [item for item in reversed(scene[2]) if paint_of(item, x, y) is not None]


def on_page(scene, x, y):
    """True if the page of the scene contains the pixel, otherwise False."""
    width, height, _ = scene
    return contains((0, 0, width, height), x, y)
