"""The flaws of placements from any source."""

from chartspec.chains import is_chain
from chartspec.choices import is_free, overlap_chosen


def flaw(problem, placement):
    """The first flaw of the placement, a pair, or None if it has none."""
    if len(placement) != len(problem[2]):
        return (None, "places")
    placed = ()
    for label, place in enumerate(placement):
        if place in (0, 1):
            found = choice_flaw(problem, placed, (label, place))
            placed = placed + ((label, place),)
        else:
            found = reason_flaw(problem, placed, label, place)
        if found is not None:
            return (label, found)
    return None


def choice_flaw(problem, placed, choice):
    """What is wrong with a choice beside those that are placed before it, or None."""
    if not is_free(problem, choice):
        return "not free"
    if any([overlap_chosen(problem, choice, other) for other in placed]):
        return "overlap"
    return None


def reason_flaw(problem, placed, label, reason):
    """What is wrong with the reason that a label has beside the choices that are placed before it, or None."""
    first, second = reason
    among = tuple([number for number, _ in placed]) + (label,)
    if not is_chain(problem, among, first, (label, 0), (label, 1)):
        return "first chain"
    if not is_chain(problem, among, second, (label, 1), (label, 0)):
        return "second chain"
    return None
