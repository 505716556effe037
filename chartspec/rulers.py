"""Rulers (form, domain, length, reversed, clamped), which map cells to the pixels of an axis."""

from chartspec.fractions import compare, lowest, minus, nearest_of, over, plus, times


def offset(domain, length, fraction):
    """The offset of a fraction of the domain of a linear ruler."""
    low, high = domain
    return nearest_of(times(over(minus(fraction, low), minus(high, low)), (length, 1)))


def nearest(ruler, fraction):
    """The pixel of a linear ruler that is nearest to the fraction."""
    _, (low, high), length, _, _ = ruler
    if compare(fraction, low) < 0:
        fraction = low
    elif compare(fraction, high) > 0:
        fraction = high
    return turned(ruler, offset((low, high), length, fraction))


def turned(ruler, place):
    """The pixel of an offset on a ruler; just so the offset of a pixel."""
    _, _, length, backwards, _ = ruler
    return length - place if backwards else place


def band(ruler, cell):
    """The band (p, q) of a cell on a band ruler, from p up to q, or None."""
    categories = ruler[1]
    return band_at(ruler, categories.index(cell)) if cell in categories else None


def band_at(ruler, number):
    """The band of the category with this number."""
    _, categories, length, backwards, _ = ruler
    first, after = number * length // len(categories), (number + 1) * length // len(categories)
    # A band reaches up to a pixel that it does not have, so its ends change places.
    return (length - after, length - first) if backwards else (first, after)


def pixel(ruler, cell):
    """The pixel of a cell, or None."""
    if cell is None:
        return None
    if ruler[0] == "band":
        found = band(ruler, cell)
        return None if found is None else found[0] + (found[1] - found[0]) // 2
    _, (low, high), _, _, clamped = ruler
    outside = compare(cell, low) < 0 or compare(cell, high) > 0
    return None if outside and not clamped else nearest(ruler, cell)


def report_at(ruler, place):
    """The report of a pixel: a span (low, high, closed) on a linear ruler, a category or None on a band ruler."""
    if ruler[0] == "linear":
        return span_of(ruler, turned(ruler, place))
    for number, category in enumerate(ruler[1]):
        first, after = band_at(ruler, number)
        if first <= place < after:
            return category
    return None


def range_of(ruler, first, last):
    """The range from one pixel of a linear ruler to another one, a span."""
    lesser, greater = sorted((turned(ruler, first), turned(ruler, last)))
    low, _, _ = span_of(ruler, lesser)
    _, high, closed = span_of(ruler, greater)
    return (low, high, closed)


def span_of(ruler, number):
    """The span of the fractions that have this offset on a linear ruler."""
    _, (low, high), length, _, _ = ruler
    closed = number == length
    return (edge(ruler, number) if number > 0 else low, high if closed else edge(ruler, number + 1), closed)


def edge(ruler, number):
    """The edge of an integer on a linear ruler, half way between the places of two offsets."""
    _, (low, high), length, _, _ = ruler
    return plus(low, times(minus(high, low), lowest(2 * number - 1, 2 * length)))
