"""The domains of scales, declared or fitted to cells."""

from chartspec.cells import compare_cells, present_cells
from chartspec.errors import TooManyCategories
from chartspec.fractions import ZERO, plus
from chartspec.sorting import arranged

# The domains that a specification tells in full.
DECLARED = ("from", "of")


def is_declared(scale):
    """True if the domain of a scale or a color scale is declared, False if it is fitted."""
    return scale[1][0] in DECLARED


def declared_domain(scale):
    """The declared domain of a scale or a color scale: the pair of its ends, or its listed cells."""
    domain = scale[1]
    return domain[1:] if domain[0] == "from" else domain[1]


def fitted_domain(scale, cells):
    """The domain of the scale for the cells, before a candidate is chosen: a pair of fractions, or the categories."""
    if scale[0] == "band":
        return fitted_categories(scale, cells)
    if is_declared(scale):
        return declared_domain(scale)
    numbers = present_cells(cells)
    return fitted_ends(numbers + (ZERO,) if scale[1][0] == "zero" else numbers)


def fitted_categories(scale, cells):
    """The categories of a band scale or a color scale for the cells."""
    if is_declared(scale):
        return declared_domain(scale)
    return arranged(tuple({cell: True for cell in present_cells(cells)}), compare_cells)


def fitted_ends(numbers):
    """The ends of the domain that is fitted to numbers, in any order."""
    if not numbers:
        return (ZERO, (1, 1))
    ascending = arranged(numbers, compare_cells)
    low, high = ascending[0], ascending[-1]
    return (low, plus(low, (1, 1)) if low == high else high)


def categories_within(scale, cells, length):
    """The categories of a band scale on an axis with this length. Raises TooManyCategories."""
    categories = fitted_categories(scale, cells)
    if len(categories) > length:
        raise TooManyCategories(len(categories))
    return categories
