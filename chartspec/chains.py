"""Chains of choices in which each choice forces the next one, and the reasons that consist of them."""

from chartspec.choices import forces


def is_chain(problem, among, chain, start, goal):
    """True if the tuple of choices is a chain from start to goal over the labels of among, otherwise False."""
    if not chain or chain[0] != start or chain[-1] != goal:
        return False
    # The labels come first: a choice of a label that the problem does not have has no rectangle.
    if not all([label in among for label, _ in chain]):
        return False
    return all([forces(problem, choice, other) for choice, other in zip(chain, chain[1:])])


def shortest_chain(problem, among, start, goal):
    """The shortest chain from start to goal over the labels of among, or None if there is none."""
    return chains_from(forced_choices(problem, among), (start,)).get(goal)


def reason_of(problem, among, label):
    """The two chains for which the label cannot be placed together with those of among, a pair, or None."""
    labels = tuple(sorted(among + (label,)))
    first = shortest_chain(problem, labels, (label, 0), (label, 1))
    second = shortest_chain(problem, labels, (label, 1), (label, 0))
    if first is None or second is None:
        return None
    return (first, second)


def forced_choices(problem, among):
    """A dict with the list of the choices of the labels of among that each of these choices forces, in order."""
    choices = [(label, side) for label in among for side in (0, 1)]
    return {choice: [other for other in choices if forces(problem, choice, other)] for choice in choices}


def chains_from(forced, starts):
    """The shortest chains from any of the starts to all choices that they force, a dict by the last choice."""
    chains = {choice: (choice,) for choice in starts}
    level = list(starts)
    while level:
        # A level is in the order of its chains, so the first chain to a choice that is met is the first of several.
        following = []
        # A copy, as `following` becomes the next level: what the loop appends to is never what it goes over.
        for choice in list(level):
            for other in forced[choice]:
                if other not in chains:
                    chains[other] = chains[choice] + (other,)
                    following.append(other)
        level = following
    return chains
