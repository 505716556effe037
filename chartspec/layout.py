"""The layout of pages: outlines of plots, and their places."""

from chartspec.frames import plot_rectangle
from chartspec.rectangles import hull
from chartspec.scenes import surroundings
from chartspec.texts import text_width

MARGIN = 10
GAP = 20
TITLE_SPACE = 18


def outline_of(frame, guides):
    """The outline of a plot with these primitives as its guides."""
    return hull((plot_rectangle(frame),) + surroundings(guides))


def page_of(title, rows):
    """The size of the page and the places of the plots in its rows of outlines, a pair."""
    width = max([text_width(title)] + [row_width(row) for row in rows])
    y = MARGIN if title == "" else MARGIN + TITLE_SPACE
    places = []
    for row in rows:
        places.append(row_places(row, y))
        y = y + max([height for _, _, _, height in row]) + GAP
    # Behind the last row there is a margin instead of a gap.
    return ((width + 2 * MARGIN, y - GAP + MARGIN), tuple(places))


def row_width(row):
    """The width of a row of outlines with the gaps between them."""
    return sum([width for _, _, width, _ in row]) + GAP * (len(row) - 1)


def row_places(row, y):
    """The places of the plots of a row of outlines with their upper edges at y, a tuple."""
    x = MARGIN
    places = []
    for left, top, width, _ in row:
        places.append((x - left, y - top))
        x = x + width + GAP
    return tuple(places)
