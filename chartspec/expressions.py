"""Expressions over the cells of a row: their kinds and their values."""

from chartspec.cells import as_cell, cell_kind, cell_text, compare_cells
from chartspec.fractions import ZERO, ceiling_of, compare, floor_of, minus, nearest_of, over, plus, times
from chartspec.tables import column_kind, column_place

# The kinds of the parts and the kind of the operations for which both are fixed.
FIXED_KINDS = {
    "minus": (("number",), "number"),
    "abs": (("number",), "number"),
    "floor": (("number",), "number"),
    "ceil": (("number",), "number"),
    "round": (("number",), "number"),
    "+": (("number", "number"), "number"),
    "-": (("number", "number"), "number"),
    "*": (("number", "number"), "number"),
    "/": (("number", "number"), "number"),
    "join": (("text", "text"), "text"),
    "length": (("text",), "number"),
    "not": (("boolean",), "boolean"),
    "and": (("boolean", "boolean"), "boolean"),
    "or": (("boolean", "boolean"), "boolean"),
}

# The results of compare_cells for which a comparison is True.
COMPARISONS = {"=": (0,), "<>": (-1, 1), "<": (-1,), "<=": (-1, 0), ">": (1,), ">=": (0, 1)}


def parts_of(expression):
    """The expressions of which an expression is made, a tuple."""
    word = expression[0]
    if word in ("cell", "nothing", "column"):
        return ()
    return expression[1:2] if word == "in" else expression[1:]


def places(expression):
    """The number of places of the expression."""
    return 1 + sum([places(part) for part in parts_of(expression)])


def columns_in(expression):
    """The names of the columns of the expression, each once, from left to right."""
    if expression[0] == "column":
        return (expression[1],)
    names = [name for part in parts_of(expression) for name in columns_in(part)]
    return tuple({name: True for name in names})


def kind_of(expression, columns):
    """The kind of the expression in these columns, or None."""
    word = expression[0]
    if word == "cell":
        return cell_kind(expression[1])
    if word == "nothing":
        return expression[1]
    if word == "column":
        return column_kind(columns, expression[1])
    kinds = tuple([kind_of(part, columns) for part in parts_of(expression)])
    return None if None in kinds else operation_kind(expression, kinds)


def operation_kind(expression, kinds):
    """The kind of an expression whose parts have these kinds, or None."""
    word = expression[0]
    if word in FIXED_KINDS:
        expected, own = FIXED_KINDS[word]
        return own if kinds == expected else None
    if word == "text":
        return "text"
    if word == "missing":
        return "boolean"
    if word == "in":
        return "boolean" if all([cell_kind(cell) == kinds[0] for cell in expression[2]]) else None
    if word == "if" and kinds[0] != "boolean":
        return None
    # What is left are two parts of one kind: those of a comparison or a choice, or the last two of an `if`.
    if kinds[-2] != kinds[-1]:
        return None
    return "boolean" if word in COMPARISONS else kinds[-1]


def evaluate(expression, columns, cells):
    """The value of the expression, which has a kind in the columns, for a row with these cells."""
    word = expression[0]
    if word == "cell":
        return expression[1]
    if word == "nothing":
        return None
    if word == "column":
        return cells[column_place(columns, expression[1])]
    if word == "if":
        _, test, first, second = expression
        return evaluate(first if evaluate(test, columns, cells) is True else second, columns, cells)
    values = tuple([evaluate(part, columns, cells) for part in parts_of(expression)])
    if word == "missing":
        return values[0] is None
    if word in ("and", "or"):
        return joined_truth(values, word == "or")
    if None in values:
        return None
    return as_cell(result_of(expression, values))


def joined_truth(values, deciding):
    """`deciding` if one of two values is that, the opposite if both are the opposite, otherwise None."""
    if deciding in values:
        return deciding
    return None if None in values else not deciding


def result_of(expression, values):
    """What an operation gives for values that are not missing; it need not be a cell."""
    word = expression[0]
    if word == "in":
        return values[0] in expression[2]
    if len(values) == 1:
        return result_of_one(word, values[0])
    return result_of_two(word, values[0], values[1])


def result_of_one(word, a):
    """What an operation with one part gives."""
    if word == "text":
        return cell_text(a)
    if word == "not":
        return not a
    if word == "length":
        return (len(a), 1)
    if word == "floor":
        return (floor_of(a), 1)
    if word == "ceil":
        return (ceiling_of(a), 1)
    if word == "round":
        return (nearest_of(a), 1)
    # What is left are the opposite number and a number without its sign.
    return minus(ZERO, a) if word == "minus" or compare(a, ZERO) < 0 else a


def result_of_two(word, a, b):
    """What an operation with two parts gives, or None for a quotient by zero."""
    if word in COMPARISONS:
        return compare_cells(a, b) in COMPARISONS[word]
    if word == "least":
        return a if compare_cells(a, b) < 0 else b
    if word == "greatest":
        return b if compare_cells(a, b) < 0 else a
    if word == "join":
        return a + b
    if word == "+":
        return plus(a, b)
    if word == "-":
        return minus(a, b)
    if word == "*":
        return times(a, b)
    return None if b == ZERO else over(a, b)
