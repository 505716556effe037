"""The labels of a problem that are kept, and their sides."""

from chartspec.chains import chains_from, forced_choices, reason_of


def together(problem, among):
    """The sides of the labels of among, a tuple, or None if they cannot be placed together."""
    forced = forced_choices(problem, among)
    made = ()
    for label in among:
        # Choices that agree belong to a placement if there is any, so no side is ever tried again.
        sides = [side for side in (0, 1) if agree(forced, made + ((label, side),))]
        if not sides:
            return None
        made = made + ((label, sides[0]),)
    return tuple([side for _, side in made])


def kept_labels(problem):
    """The numbers of the kept labels, a tuple in ascending order."""
    kept = ()
    for label in range(len(problem[2])):
        if together(problem, kept + (label,)) is not None:
            kept = kept + (label,)
    return kept


def place_labels(problem):
    """The placement: the side of each kept label, the reason of each other one."""
    kept = kept_labels(problem)
    sides = dict(zip(kept, together(problem, kept)))
    places = []
    for label in range(len(problem[2])):
        if label in sides:
            places.append(sides[label])
        else:
            places.append(reason_of(problem, tuple([other for other in kept if other < label]), label))
    return tuple(places)


def agree(forced, choices):
    """True if some choices, together with all that they force, contain no two choices of one label, otherwise False."""
    reached = chains_from(forced, choices)
    return not any([(label, 1 - side) in reached for label, side in reached])
