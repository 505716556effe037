"""Choices (label, side) of the places of labels in a problem (area, obstacles, labels)."""

from chartspec.rectangles import inside, overlap


def chosen_rectangle(problem, choice):
    """The rectangle of the choice."""
    label, side = choice
    return problem[2][label][side]


def is_free(problem, choice):
    """True if the rectangle of the choice lies inside the area and overlaps no obstacle, otherwise False."""
    area, obstacles, _ = problem
    place = chosen_rectangle(problem, choice)
    return inside(place, area) and not any([overlap(place, obstacle) for obstacle in obstacles])


def forces(problem, choice, other):
    """True if the first choice forces the second one, otherwise False."""
    if choice == other:
        return False
    if choice[0] == other[0]:
        return not is_free(problem, choice)
    return overlap_chosen(problem, choice, other_choice(other))


def other_choice(choice):
    """The choice of the same label with the other side."""
    label, side = choice
    return (label, 1 - side)


def overlap_chosen(problem, first, second):
    """True if the rectangles of two choices overlap, otherwise False."""
    return overlap(chosen_rectangle(problem, first), chosen_rectangle(problem, second))
