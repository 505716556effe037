"""The rulers and the ticks (pixel, cell, label, line) of the axes of scales."""

from chartspec.cells import cell_text
from chartspec.fitted import categories_within, fitted_domain, is_declared
from chartspec.formats import number_label
from chartspec.fractions import minus, multiple_above, multiple_below, over
from chartspec.lines import extent, line_count
from chartspec.rulers import pixel
from chartspec.steps import multiples, round_step, step_after

CANDIDATES = 9


def candidate(scale, domain, step, length, *, vertical=False):
    """The candidate of a linear scale with a shown axis for a round step, a pair (ruler, ticks)."""
    low, high = candidate_domain(scale, domain, step)
    ruler = ruler_of(scale, (low, high), length)
    style = scale[5][2]
    values = multiples(step, low, high)
    return (ruler, ticks_of(ruler, values, [number_label(value, style) for value in values], vertical))


def axis_of(scale, cells, length, *, vertical=False):
    """The pair (ruler, ticks) of a scale for the cells that it shows. Raises TooManyCategories."""
    if scale[0] == "band":
        return band_axis(scale, categories_within(scale, cells, length), length, vertical)
    return linear_axis(scale, fitted_domain(scale, cells), length, vertical)


def band_axis(scale, categories, length, vertical):
    """The pair (ruler, ticks) of a band scale with these categories."""
    ruler = ruler_of(scale, categories, length)
    shown = () if scale[5] is None else categories
    return (ruler, ticks_of(ruler, shown, [cell_text(cell) for cell in shown], vertical))


def linear_axis(scale, domain, length, vertical):
    """The pair (ruler, ticks) of a linear scale with this domain before a candidate is chosen."""
    low, high = domain
    most = scale[4]
    step = round_step(over(minus(high, low), (most, 1)))
    if scale[5] is None:
        return (ruler_of(scale, candidate_domain(scale, domain, step), length), ())
    found = candidate(scale, domain, step, length, vertical=vertical)
    for _ in range(CANDIDATES - 1):
        if suits(found[1], most):
            break
        step = step_after(step)
        found = candidate(scale, domain, step, length, vertical=vertical)
    return found


def candidate_domain(scale, domain, step):
    """The domain of the candidate for a step: widened to multiples of it, unless it is declared."""
    if is_declared(scale):
        return domain
    low, high = domain
    return (multiple_below(step, low), multiple_above(step, high))


def ruler_of(scale, domain, length):
    """The ruler of a scale with this domain."""
    form, _, backwards, clamped, _, _ = scale
    return (form, domain, length, backwards, clamped)


def ticks_of(ruler, values, labels, vertical):
    """The ticks for values with these labels, in the order of their pixels."""
    pairs = list(zip(values, labels))
    if ruler[3]:
        pairs = pairs[::-1]
    places = [pixel(ruler, value) for value, _ in pairs]
    extents = [extent(place, label, vertical=vertical) for place, (_, label) in zip(places, pairs)]
    lines = line_count(extents, 3 if vertical else 6)
    return tuple([(place, value, label, number % lines)
                  for number, (place, (value, label)) in enumerate(zip(places, pairs))])


def suits(ticks, most):
    """True if there are at most `most` intervals between the ticks and one line of labels, otherwise False."""
    return len(ticks) <= most + 1 and all([line == 0 for _, _, _, line in ticks])
