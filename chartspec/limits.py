"""The limits of columns, where filters and scales tell cells apart, and the candidates around them."""

from chartspec.cells import MOST_CHARACTERS, compare_cells
from chartspec.channels import shown_channels
from chartspec.expressions import COMPARISONS, columns_in
from chartspec.fitted import declared_domain
from chartspec.formulas import tests_of
from chartspec.fractions import lowest, plus
from chartspec.layers import CHANNEL_SCALES, scale_of, shown_column
from chartspec.rulers import edge
from chartspec.sorting import arranged

# All characters of texts in the order of ASCII.
CHARACTERS = " !\"#$&'()*+,-./0123456789:;<=>?@ABCDEFGHIJKLMNOPQRSTUVWXYZ[\\]^_`abcdefghijklmnopqrstuvwxyz{|}~"
LAST_CHARACTER = "~"


def scale_values(ruler):
    """The values of the scale of a ruler, a tuple."""
    form, domain, length, _, _ = ruler
    if form == "band":
        return domain
    low, high = domain
    return (low,) + tuple([edge(ruler, number) for number in range(1, length + 1)]) + (high,)


def limits_of(first, second, table, column):
    """The limits of a column of a data table, by their numbers, a tuple in ascending order."""
    name = first[1][table][1][column][0]
    found = {}
    for spec in (first, second):
        for number, _, layer in layers_with(spec, table):
            for cell in filter_limits(layer, name) + channel_limits(spec, number, layer, name):
                found[cell] = True
    return arranged(tuple(found), compare_cells)


def matters(first, second, table, column):
    """True if a column of a data table, by their numbers, matters, otherwise False."""
    name = first[1][table][1][column][0]
    for _, _, layer in layers_with(first, table) + layers_with(second, table):
        filtered = [other for _, condition in layer[1] for other in columns_in(condition)]
        if name in filtered + [shown_column(layer, channel) for channel in shown_channels(layer)]:
            return True
    return False


def layers_with(spec, table):
    """The triples (number of the view, number of the layer, layer) of the layers with a data table, a list."""
    name = spec[1][table][0]
    return [(number, at, layer) for number, view in enumerate(spec[2]) for at, layer in enumerate(view[6])
            if layer[0] == name]


def tests_on(layer, name):
    """The tests of the filters of a layer with the column of this name, a list."""
    return [test for _, condition in layer[1] for test in tests_of(condition) if columns_in(test) == (name,)]


def filter_limits(layer, name):
    """The cells with which the filters of a layer compare the column of this name, a list."""
    found = []
    for test in tests_on(layer, name):
        if test[0] == "in":
            found.extend(list(test[2]))
        elif test[0] in COMPARISONS:
            found.extend([part[1] for part in test[1:] if part[0] == "cell"])
    return found


def channel_limits(spec, number, layer, name):
    """The values of the scales by which a layer shows the column of this name, a list."""
    view = spec[2][number]
    found = []
    for channel in shown_channels(layer):
        if shown_column(layer, channel) == name:
            found.extend(list(channel_values(view, CHANNEL_SCALES[channel])))
    return found


def channel_values(view, word):
    """The values of the scale "x", "y" or "color" of a view, whose domain is declared."""
    domain = declared_domain(scale_of(view, word))
    if word == "color":
        return domain
    length = view[2][0 if word == "x" else 1]
    return scale_values((scale_of(view, word)[0], domain, length, False, False))


def candidates(kind, limits):
    """The candidates of a column of this kind for some limits, a tuple in ascending order."""
    if kind == "boolean":
        return (False, True)
    return number_candidates(limits) if kind == "number" else text_candidates(limits)


def number_candidates(limits):
    """The candidates for limits that are fractions."""
    if not limits:
        return ((0, 1), (1, 1))
    first, last = limits[0], limits[-1]
    found = [plus(first, (-2, 1)), plus(first, (-1, 1))]
    for low, high in zip(limits, limits[1:]):
        once = lowest(low[0] + high[0], low[1] + high[1])
        twice = lowest(low[0] + 2 * high[0], low[1] + 2 * high[1])
        found.extend([low, once, twice])
    return tuple(found + [last, plus(last, (1, 1)), plus(last, (2, 1))])


def text_candidates(limits):
    """The candidates for limits that are texts."""
    if not limits:
        return ("", " ")
    found = [text for text in ("", " ") if text < limits[0]]
    for number, limit in enumerate(limits):
        found.append(limit)
        text = limit
        for _ in range(2):
            text = None if text is None else text_after(text)
            if text is not None and (number + 1 == len(limits) or text < limits[number + 1]):
                found.append(text)
    return tuple(found)


def text_after(text):
    """The text that comes directly after a text among all cells, or None."""
    if len(text) < MOST_CHARACTERS:
        return text + " "
    kept = text.rstrip(LAST_CHARACTER)
    if kept == "":
        return None
    return kept[:-1] + CHARACTERS[CHARACTERS.index(kept[-1]) + 1]
