"""The rows with which two specifications are compared, so that they stand for all rows."""

from chartspec.expressions import evaluate
from chartspec.guides import frame_of
from chartspec.layers import shown_column, source_of
from chartspec.limits import candidates, layers_with, limits_of, matters, tests_on
from chartspec.marks import mark_places, row_color

# The channels of the features of each mark, in their order.
FEATURE_CHANNELS = {
    "point": ("color", "x", "y"),
    "rule": ("color", "x", "y", "x2", "y2"),
    "bar": ("color", "x", "y"),
}

# The channels that are taken for others which a rule does not have.
STAND_INS = {"x2": "x", "y2": "y"}


def features(frame, number, layer, columns, cells):
    """The features of a row with these cells in the layer with this number, a tuple."""
    return (row_color(frame, layer, columns, cells),) + mark_places(frame, layer, columns, cells)


def test_values(first, second, table, column):
    """The test values of a column of a data table, by their numbers, a tuple."""
    if not matters(first, second, table, column):
        return (None,)
    kind = first[1][table][1][column][1]
    found = candidates(kind, limits_of(first, second, table, column))
    members = {}
    for value, mark in zip(found, classes(first, second, table, column, found)):
        members.setdefault(mark, []).append(value)
    chosen = {value: True for values in members.values() for value in (values[0], values[-1])}
    return (None,) + tuple([value for value in found if value in chosen])


def test_rows(first, second, table):
    """The test rows of a data table, by its number: tuples of cells."""
    values = values_of_table(first, second, table)
    yield from rows_from(values)


def values_of_table(first, second, table):
    """The test values of all columns of a data table, a list of tuples; () if the table has no test rows."""
    if not layers_with(first, table) and not layers_with(second, table):
        return ()
    return [test_values(first, second, table, column) for column in range(len(first[1][table][1]))]


def count_of_rows(values):
    """The number of the test rows for the test values of all columns, which are not looked at."""
    count = 1 if values else 0
    for each in values:
        count = count * len(each)
    return count


def rows_from(values):
    """The test rows for the test values of all columns, in lexicographic order."""
    for number in range(count_of_rows(values)):
        rest = number
        cells = ()
        for each in reversed(values):
            rest, place = divmod(rest, len(each))
            cells = (each[place],) + cells
        yield cells


def classes(first, second, table, column, values):
    """What tells the class of each of some candidates of a column, a list."""
    columns = first[1][table][1]
    name = columns[column][0]
    tests = [test for spec in (first, second) for _, _, layer in layers_with(spec, table)
             for test in tests_on(layer, name)]
    left, right = watched(first, table), watched(second, table)
    found = []
    for value in values:
        cells = tuple([value if at == column else None for at in range(len(columns))])
        outcomes = [evaluate(test, columns, cells) for test in tests]
        shown, other = seen_of(left, columns, cells), seen_of(right, columns, cells)
        lacking = missing_features(left, shown, name) + missing_features(right, other, name)
        found.append(tuple(outcomes + lacking + equal_features(left, right, shown, other, name)))
    return found


def watched(spec, table):
    """A dict with the pair (frame, layer) of each layer with a data table, by the numbers of its view and its own."""
    frames = {}
    for number, _, _ in layers_with(spec, table):
        # All domains that are looked at are declared, so the frame does not depend on rows.
        frames[number] = frame_of(spec, number, (((), ()),) * len(spec[2][number][6]))[0]
    return {(number, at): (frames[number], layer) for number, at, layer in layers_with(spec, table)}


def seen_of(watching, columns, cells):
    """A dict with the features of a row with these cells in each watched layer."""
    return {place: features(frame, place[1], layer, columns, cells) for place, (frame, layer) in watching.items()}


def feature_columns(layer):
    """The name of the column on which each feature of a layer depends, a list; None stands for no column."""
    found = []
    for channel in FEATURE_CHANNELS[layer[2]]:
        taken = STAND_INS.get(channel) if source_of(layer, channel) is None else channel
        found.append(None if taken is None else shown_column(layer, taken))
    return found


def missing_features(watching, shown, name):
    """For each feature that depends on the column of this name, in each watched layer, whether it is None, a list."""
    return [feature is None for place, (_, layer) in watching.items()
            for feature, own in zip(shown[place], feature_columns(layer)) if own == name]


def equal_features(left, right, shown, other, name):
    """For the features that depend on no column but that of this name in two layers, whether they are equal, a list."""
    found = []
    for place, (_, layer) in left.items():
        if place in right and right[place][1][2] == layer[2]:
            pairs = list(zip(feature_columns(layer), feature_columns(right[place][1])))
            for at, pair in enumerate(pairs):
                if name in pair and all([own in (None, name) for own in pair]):
                    found.append(shown[place][at] == other[place][at])
    return found
