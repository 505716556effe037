"""Frames (number, x, y, palette, categories) of plots."""


def frame_size(frame):
    """The lengths (W, H) of the two axes."""
    _, x, y, _, _ = frame
    return (x[2], y[2])


def plot_rectangle(frame):
    """The area of the plot, in which its marks are painted."""
    width, height = frame_size(frame)
    return (0, 0, width + 1, height + 1)


def axis_ruler(frame, channel):
    """The ruler on which x, x2, y or y2 has its pixels."""
    return frame[1] if channel in ("x", "x2") else frame[2]


def is_horizontal(x, y):
    """True if bars are horizontal with these two rulers or scales, otherwise False."""
    return y[0] == "band" and x[0] != "band"
