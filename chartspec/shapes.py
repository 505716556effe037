"""The rectangles around shapes and the pixels that shapes cover."""

from chartspec.rectangles import contains
from chartspec.texts import TEXT_HEIGHT, inked, text_width


def around(shape, points, text):
    """The rectangle around a shape."""
    if shape == "rectangle":
        return points
    if shape in ("line", "polyline"):
        return around_points(points)
    if shape == "circle":
        x, y, radius = points
        return (x - radius, y - radius, 2 * radius + 1, 2 * radius + 1)
    return around_text(shape, points, text)


def around_points(points):
    """The least rectangle that contains all the points (x1, y1, x2, y2, ..)."""
    columns, lines = points[::2], points[1::2]
    left, top = min(columns), min(lines)
    return (left, top, max(columns) - left + 1, max(lines) - top + 1)


def around_text(shape, points, text):
    """The rectangle around a text, by the place in it that its point tells."""
    x, y = points
    width = text_width(text)
    if shape == "text middle":
        x = x - width // 2
    elif shape == "text end":
        x = x - width
    return (x, y, width, TEXT_HEIGHT)


def covers(shape, points, text, x, y):
    """True if the shape covers the pixel (x, y), otherwise False."""
    if shape == "rectangle":
        return contains(points, x, y)
    if shape == "line":
        return line_covers(points, x, y)
    if shape == "polyline":
        return polyline_covers(points, x, y)
    if shape == "circle":
        return circle_covers(points, x, y)
    left, top, _, _ = around_text(shape, points, text)
    return inked(text, x - left, y - top)


def line_covers(ends, x, y):
    """True if the line (x1, y1, x2, y2) covers the pixel (x, y), otherwise False."""
    if not contains(around_points(ends), x, y):
        return False
    x1, y1, x2, y2 = ends
    across, down = x2 - x1, y2 - y1
    return 2 * abs((y - y1) * across - (x - x1) * down) <= max(abs(across), abs(down))


def polyline_covers(points, x, y):
    """True if the polyline (x1, y1, x2, y2, ..) covers the pixel (x, y), otherwise False."""
    if len(points) == 2:
        return points == (x, y)
    for start in range(0, len(points) - 2, 2):
        if line_covers(points[start:start + 4], x, y):
            return True
    return False


def circle_covers(points, x, y):
    """True if the circle (x0, y0, radius) covers the pixel (x, y), otherwise False."""
    x0, y0, radius = points
    return (x - x0) ** 2 + (y - y0) ** 2 <= radius * radius + radius
