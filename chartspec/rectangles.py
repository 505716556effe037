"""Rectangles (left, top, width, height) of pixels."""


def contains(rectangle, x, y):
    """True if the rectangle contains the pixel (x, y), otherwise False."""
    left, top, width, height = rectangle
    return left <= x < left + width and top <= y < top + height


def overlap(first, second):
    """True if some pixel is contained in both rectangles, otherwise False."""
    return common(first, second) is not None


def inside(first, second):
    """True if the first rectangle lies inside the second one, otherwise False."""
    left, top, right, bottom = edges(first)
    least_left, least_top, most_right, most_bottom = edges(second)
    return least_left <= left and least_top <= top and right <= most_right and bottom <= most_bottom


def common(first, second):
    """The rectangle of the pixels that both rectangles contain, or None if there is none."""
    first_left, first_top, first_right, first_bottom = edges(first)
    second_left, second_top, second_right, second_bottom = edges(second)
    left, top = max(first_left, second_left), max(first_top, second_top)
    right, bottom = min(first_right, second_right), min(first_bottom, second_bottom)
    if left >= right or top >= bottom:
        return None
    return (left, top, right - left, bottom - top)


def hull(rectangles):
    """The least rectangle around the edges of all rectangles of a tuple, or None for ()."""
    if not rectangles:
        return None
    sides = [edges(rectangle) for rectangle in rectangles]
    left, top = min([side[0] for side in sides]), min([side[1] for side in sides])
    right, bottom = max([side[2] for side in sides]), max([side[3] for side in sides])
    return (left, top, right - left, bottom - top)


def edges(rectangle):
    """The left, upper, right and lower edge of a rectangle."""
    left, top, width, height = rectangle
    return (left, top, left + width, top + height)
