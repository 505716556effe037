"""Cells: None, which is called missing, True, False, texts and numbers; their order and their texts."""

from chartspec.fractions import as_number, compare, fraction_text, read_fraction

# The kinds in the order in which their cells come; None stands for missing cells.
KIND_ORDER = ("boolean", "number", "text", None)

BOOLEANS = {"true": True, "false": False}

MOST_CHARACTERS = 40


def cell_kind(cell):
    """The kind of a cell, or None for a missing cell."""
    if cell is None:
        return None
    if isinstance(cell, bool):
        return "boolean"
    return "text" if isinstance(cell, str) else "number"


def compare_cells(a, b):
    """-1 if the cell a comes before b, 0 if they are equal, 1 if b comes before a."""
    kind, other = cell_kind(a), cell_kind(b)
    if kind != other:
        return -1 if KIND_ORDER.index(kind) < KIND_ORDER.index(other) else 1
    if kind == "number":
        return compare(a, b)
    if a == b:
        return 0
    return -1 if a < b else 1


def cell_text(cell):
    """The text of a cell that is not missing."""
    kind = cell_kind(cell)
    if kind == "boolean":
        return "true" if cell else "false"
    return cell if kind == "text" else fraction_text(cell)


def read_cell(text, kind):
    """The cell of this kind that the text denotes, or None."""
    if kind == "boolean":
        return BOOLEANS.get(text)
    return as_cell(text if kind == "text" else read_fraction(text))


def as_cell(found):
    """What is found, as a cell: missing if it is a fraction but no number, or a text that is too long."""
    kind = cell_kind(found)
    if kind == "number":
        return as_number(found)
    if kind == "text" and len(found) > MOST_CHARACTERS:
        return None
    return found


def present_cells(cells):
    """The cells of a tuple that are not missing, a tuple in their order."""
    return tuple([cell for cell in cells if cell is not None])


def key_text(cells):
    """The key text of a tuple of cells."""
    return ",".join([key_part(cell) for cell in cells])


def key_part(cell):
    """What stands for a cell in a key text."""
    if cell is None:
        return "-"
    text = cell_text(cell)
    return "\"" + text.replace("\"", "\"\"") + "\"" if cell_kind(cell) == "text" else text
