"""Comparing two specifications: whether they draw all data the same."""

from chartspec.cases import count_of_rows, rows_from, values_of_table
from chartspec.drawing import draw
from chartspec.errors import NotComparable, TooManyCases
from chartspec.fitted import is_declared
from chartspec.formulas import is_formula
from chartspec.fractions import as_number
from chartspec.layers import CHANNEL_SCALES, channel_words, scale_of
from chartspec.limits import candidates, limits_of, matters
from chartspec.scenes import without_keys

MOST_CASES = 200


def same(first, second, data):
    """True if both specifications draw the data the same, otherwise False. Raises TooManyCategories."""
    return without_keys(draw(first, data)) == without_keys(draw(second, data))


def compared(first, second):
    """None, or data that two specifications draw differently. Raises NotComparable, TooManyCategories, TooManyCases."""
    if first[1] != second[1]:
        raise NotComparable("tables")
    empty = ((),) * len(first[1])
    if not same(first, second, empty):
        return empty
    for spec in (first, second):
        for view in spec[2]:
            for layer in view[6]:
                refuse_layer(view, layer)
    refuse_fractions(first, second)
    values = [values_of_table(first, second, table) for table in range(len(empty))]
    count = sum([count_of_rows(each) for each in values])
    if count > MOST_CASES:
        raise TooManyCases(count)
    for table, each in enumerate(values):
        for cells in rows_from(each):
            data = empty[:table] + (((1, cells),),) + empty[table + 1:]
            if not same(first, second, data):
                return data
    return None


def refuse_layer(view, layer):
    """Raises NotComparable with the first word that applies to a layer of a view."""
    _, transforms, mark, _, _, label = layer
    channels = channel_words(layer)
    if mark in ("line", "text") or mark == "bar" and ("x2" in channels or "y2" in channels):
        raise NotComparable("mark")
    if label is not None:
        raise NotComparable("label")
    if not all([transform[0] == "filter" for transform in transforms]):
        raise NotComparable("transform")
    if not all([is_formula(condition) for _, condition in transforms]):
        raise NotComparable("expression")
    if not all([is_declared(scale_of(view, CHANNEL_SCALES[channel])) for channel in channels]):
        raise NotComparable("scale")


def refuse_fractions(first, second):
    """Raises NotComparable if a candidate of a column that matters is a fraction but no number."""
    for table, (_, columns) in enumerate(first[1]):
        for column, (_, kind) in enumerate(columns):
            if kind == "number" and matters(first, second, table, column):
                found = candidates(kind, limits_of(first, second, table, column))
                if None in [as_number(fraction) for fraction in found]:
                    raise NotComparable("numbers")
