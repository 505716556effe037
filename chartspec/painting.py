"""Pictures, tuples of rows of colors, and repainting them in rectangles."""

from chartspec.errors import PictureTooLarge
from chartspec.pictures import BLANK
from chartspec.rectangles import common
from chartspec.scenes import paint_of, reach

# A page with more pixels has no picture as a whole.
MOST_PIXELS = 20000


def painted(scene, rectangle):
    """The picture of a rectangle that lies inside the page, a tuple of tuples of colors."""
    _, _, width, height = rectangle
    rows = [[BLANK] * width for _ in range(height)]
    for item in needed(scene, rectangle):
        for piece in pieces(item):
            paint(rows, rectangle, piece)
    return tuple([tuple(row) for row in rows])


def picture(scene):
    """The picture of the page. Raises PictureTooLarge."""
    width, height, _ = scene
    if width * height > MOST_PIXELS:
        raise PictureTooLarge(width * height)
    return painted(scene, (0, 0, width, height))


def needed(scene, rectangle):
    """The primitives whose reach has a pixel in common with the rectangle, a tuple in the order of the scene."""
    return tuple([item for item in scene[2] if part_within(item, rectangle) is not None])


def repainted(colors, scene, rectangles):
    """The picture `colors` with the colors that the pixels of the rectangles of a tuple have in the scene."""
    width, height, _ = scene
    rows = [list(row) for row in colors]
    for rectangle in rectangles:
        part = common(rectangle, (0, 0, width, height))
        if part is not None:
            replace_part(rows, part, painted(scene, part))
    return tuple([tuple(row) for row in rows])


def part_within(item, rectangle):
    """The common part of the reach of a primitive and the rectangle, or None."""
    part = reach(item)
    return None if part is None else common(part, rectangle)


def pieces(item):
    """Primitives that together paint the pixels of a primitive: the lines of a polyline, otherwise itself alone."""
    points = item[4]
    if item[3] != "polyline" or len(points) == 2:
        return [item]
    # The parts of the lines are much smaller than that of the polyline, so fewer pixels have to be tried.
    return [item[:3] + ("line", points[start:start + 4]) + item[5:] for start in range(0, len(points) - 2, 2)]


def paint(rows, rectangle, item):
    """Replace colors in the rows of the picture of a rectangle where the primitive paints."""
    part = part_within(item, rectangle)
    if part is None:
        return
    first, upper, width, height = part
    left, top, _, _ = rectangle
    for y in range(upper, upper + height):
        row = rows[y - top]
        if item[3] == "rectangle" and item[6] is not None:
            # A rectangle paints all of its reach, so no pixel has to be tried.
            row[first - left:first - left + width] = [item[6]] * width
        else:
            paint_pixels(row, left, item, (first, y, width, 1))


def paint_pixels(row, left, item, part):
    """Replace colors in a row of a picture with this left edge where the primitive paints pixels of a part of it."""
    first, y, width, _ = part
    for x in range(first, first + width):
        color = paint_of(item, x, y)
        if color is not None:
            row[x - left] = color


def replace_part(rows, part, colors):
    """Replace the colors of the rectangle `part` in the rows of a picture."""
    left, top, width, _ = part
    for number, row in enumerate(colors):
        rows[top + number][left:left + width] = row
