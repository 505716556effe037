"""Edits of states (spec, data, numbers): a specification, its data, and the numbers of the next rows."""

from chartspec.errors import TooManyRows, UnknownName, WrongKind
from chartspec.expressions import columns_in, evaluate, kind_of
from chartspec.tables import column_kind, column_place
from chartspec.transforms import refuse_unknown

MOST_ROWS = 40
MOST_NUMBER = 9999

# Where a view has its scales.
SCALE_PLACES = {"x": 3, "y": 4, "color": 5}


def first_numbers(data):
    """The numbers that the next rows of the data tables get at first, a tuple."""
    return tuple([rows[-1][0] + 1 if rows else 1 for rows in data])


def edited(state, edit):
    """The state after an edit. Raises UnknownName, TooManyRows, WrongKind."""
    word = edit[0]
    if word == "specification":
        return edit[1:] + state[1:]
    if word == "resize":
        return with_view(state, edit[1], 2, edit[2:])
    if word == "domain":
        return with_domain(state, edit)
    if word == "insert":
        return with_rows(state, edit)
    return with_changed_rows(state, edit)


def place_of(named, name):
    """The place of the first of some tables or views with this name. Raises UnknownName."""
    names = [each[0] for each in named]
    if name not in names:
        raise UnknownName(name)
    return names.index(name)


def replaced(things, place, thing):
    """The tuple with another thing at a place."""
    return things[:place] + (thing,) + things[place + 1:]


def with_view(state, name, place, part):
    """The state with another part at a place of the view with this name."""
    (title, tables, views, rows), data, numbers = state
    number = place_of(views, name)
    changed = replaced(views, number, replaced(views[number], place, part))
    return ((title, tables, changed, rows), data, numbers)


def with_domain(state, edit):
    """The state after giving a scale of a view a domain."""
    _, name, scale, domain = edit
    views = state[0][2]
    place = SCALE_PLACES[scale]
    old = views[place_of(views, name)][place]
    return with_view(state, name, place, replaced(old, 1, domain))


def with_rows(state, edit):
    """The state after inserting rows."""
    _, name, rows = edit
    spec, data, numbers = state
    table = place_of(spec[1], name)
    first = numbers[table]
    if len(data[table]) + len(rows) > MOST_ROWS or first + len(rows) - 1 > MOST_NUMBER:
        raise TooManyRows(name)
    longer = data[table] + tuple([(first + at, cells) for at, cells in enumerate(rows)])
    return (spec, replaced(data, table, longer), replaced(numbers, table, first + len(rows)))


def with_changed_rows(state, edit):
    """The state after deleting or updating rows."""
    word, name = edit[:2]
    spec, data, numbers = state
    table = place_of(spec[1], name)
    columns = spec[1][table][1]
    assignments = edit[2] if word == "update" else ()
    for column, expression in assignments:
        refuse_unknown(columns, (column,) + columns_in(expression))
        refuse_kind(word, columns, expression, column_kind(columns, column))
    condition = edit[-1]
    refuse_unknown(columns, columns_in(condition))
    refuse_kind(word, columns, condition, "boolean")
    found = []
    for number, cells in data[table]:
        if evaluate(condition, columns, cells) is not True:
            found.append((number, cells))
        elif word == "update":
            found.append((number, assigned(columns, cells, assignments)))
    return (spec, replaced(data, table, tuple(found)), numbers)


def refuse_kind(word, columns, expression, kind):
    """Raises WrongKind with the word of the edit if the expression is not of this kind in the columns."""
    if kind_of(expression, columns) != kind:
        raise WrongKind(word)


def assigned(columns, cells, assignments):
    """The cells of a row after assigning the values that expressions have for them before."""
    found = cells
    for column, expression in assignments:
        found = replaced(found, column_place(columns, column), evaluate(expression, columns, cells))
    return found
