"""Checking specifications (title, tables, views, rows)."""

from chartspec.cells import cell_kind
from chartspec.errors import (ChannelNeeded, ChannelNotAllowed, DuplicateName, ScalesDoNotFit, UnknownName, WrongKind)
from chartspec.fitted import categories_within, is_declared
from chartspec.layers import CHANNEL_SCALES, MARK_CHANNELS, channel_words, needed_channels, scale_of, source_kind
from chartspec.orders import key_names
from chartspec.transforms import columns_after, refuse_unknown


def check_spec(spec):
    """Raises the first error of the specification; None if it has none."""
    _, tables, views, _ = spec
    for number, (name, columns) in enumerate(tables):
        refuse_repeated(name, names_of(tables[:number]))
        for place, (column, _) in enumerate(columns):
            refuse_repeated(column, names_of(columns[:place]))
    for number in range(len(views)):
        check_view(spec, number)


def names_of(named):
    """The names that come first in some tables, columns or views, a tuple."""
    return tuple([each[0] for each in named])


def refuse_repeated(name, earlier):
    """Raises DuplicateName if the name is one of the earlier ones."""
    if name in earlier:
        raise DuplicateName(name)


def check_view(spec, number):
    """Raises the first error of a view."""
    views = spec[2]
    name, _, (width, height), x, y, _, layers = views[number]
    refuse_repeated(name, names_of(views[:number]))
    for scale, length in ((x, width), (y, height)):
        if scale[0] == "band":
            # Without cells only a declared domain has categories.
            categories_within(scale, (), length)
    for layer in range(len(layers)):
        check_layer(spec, number, layer)


def check_layer(spec, number, layer):
    """Raises the first error of a layer."""
    view = spec[2][number]
    found = view[6][layer]
    table, _, mark, _, _, label = found
    if table not in names_of(spec[1]):
        raise UnknownName(table)
    columns = last_columns(spec, number, layer)
    check_channels(spec, number, columns, found)
    for channel in needed_channels(found):
        if channel not in channel_words(found):
            raise ChannelNeeded(channel)
    if mark == "bar" and not scales_fit_bar(view, channel_words(found)):
        raise ScalesDoNotFit(view[0])
    if label is not None:
        column, keys, _, _, _ = label
        refuse_unknown(columns, (column,) + key_names(keys))


def last_columns(spec, number, layer):
    """The columns of the last table of a layer. Raises the errors of its transforms."""
    _, tables, views, _ = spec
    table, transforms, _, _, _, _ = views[number][6][layer]
    columns = dict(tables)[table]
    for transform in transforms:
        columns = columns_after(columns, transform)
    return columns


def check_channels(spec, number, columns, layer):
    """Raises the first error of the channels of a layer with these columns in its last table."""
    for place, (channel, source) in enumerate(layer[3]):
        if channel not in MARK_CHANNELS[layer[2]]:
            raise ChannelNotAllowed(channel)
        refuse_repeated(channel, channel_words(layer)[:place])
        kind = source_kind(columns, source)
        if kind is None:
            raise UnknownName(source[1])
        if channel in CHANNEL_SCALES and kind != scale_kind(spec, number, CHANNEL_SCALES[channel]):
            raise WrongKind(channel)


def scale_kind(spec, number, channel):
    """The kind of the scale of a view that shows the channel "x", "y" or "color", or None if nothing determines it."""
    view = spec[2][number]
    scale = scale_of(view, channel)
    if scale[0] == "linear":
        return "number"
    if is_declared(scale):
        return cell_kind(scale[1][1][0])
    for layer, found in enumerate(view[6]):
        for word, kind in given_kinds(last_columns(spec, number, layer), found):
            if CHANNEL_SCALES.get(word) == channel:
                return kind
    return None


def given_kinds(columns, layer):
    """The pairs (channel, kind) of the channels of a layer that count as given, in their order."""
    found = []
    for place, (channel, source) in enumerate(layer[3]):
        kind = source_kind(columns, source)
        repeated = channel in channel_words(layer)[:place]
        if channel in MARK_CHANNELS[layer[2]] and not repeated and kind is not None:
            found.append((channel, kind))
    return found


def scales_fit_bar(view, given):
    """True if the scales of the view fit a bar with the channels that are given, otherwise False."""
    x_band, y_band = view[3][0] == "band", view[4][0] == "band"
    if x_band and y_band:
        return False
    if x_band:
        return "x2" not in given
    return "y2" not in given if y_band else "x2" in given
