"""The channels that layers show, and whether they can be read."""

from chartspec.fitted import is_declared
from chartspec.layers import CHANNEL_SCALES, scale_of, shown_column

# All channels in the order in which they are listed.
CHANNEL_ORDER = ("x", "x2", "y", "y2", "color", "text", "detail")


def shown_channels(layer):
    """The shown channels of a layer, a tuple."""
    return tuple([channel for channel in CHANNEL_ORDER if shown_column(layer, channel) is not None])


def can_read(spec, number, channel):
    """True if the channel can be read in layers of the view, otherwise False."""
    if channel not in CHANNEL_SCALES:
        return channel == "text"
    word = CHANNEL_SCALES[channel]
    scale = scale_of(spec[2][number], word)
    if not is_declared(scale):
        # What is fitted can be seen from the axis or the legend alone; both stand last, None if they are hidden.
        return scale[-1] is not None
    return word == "color" or scale[0] == "band" or not scale[3]


def unread(spec):
    """The triples (number, layer, channel) of all shown channels that cannot be read, a tuple."""
    return tuple([(number, at, channel) for number, view in enumerate(spec[2]) for at, layer in enumerate(view[6])
                  for channel in shown_channels(layer) if not can_read(spec, number, channel)])
