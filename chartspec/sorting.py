"""Sorting by comparisons."""


def arranged(items, compared):
    """The items of a tuple in the order of `compared`, which tells -1, 0 or 1; equal ones stay in their order."""
    if len(items) < 2:
        return items
    middle = len(items) // 2
    return merged(arranged(items[:middle], compared), arranged(items[middle:], compared), compared)


def merged(first, second, compared):
    """The items of two arranged tuples in one order, where of equal items those of the first one come first."""
    found = []
    taken = 0
    for item in second:
        while taken < len(first) and compared(first[taken], item) <= 0:
            found.append(first[taken])
            taken += 1
        found.append(item)
    return tuple(found) + first[taken:]
