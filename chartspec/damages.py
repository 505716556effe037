"""The difference of two keyed scenes, and the rectangles in which their pictures may differ."""

from chartspec.patches import merged_order, touched
from chartspec.rectangles import hull
from chartspec.scenes import identity, visible_part


def diff(first, second):
    """The difference of the two keyed scenes, a patch."""
    size = None if first[:2] == second[:2] else second[:2]
    old, new = by_identity(first), by_identity(second)
    removed = tuple([name for name in old if name not in new])
    put = tuple([item for item in second[2] if old.get(identity(item)) != item])
    draft = (size, removed, put, None, ())
    names = tuple(new)
    order = None if names == merged_order(first, draft) else names
    damage = damage_of(first, second, draft) if size is None else whole_page(size)
    return (size, removed, put, order, damage)


def moved(first, second):
    """The moved identities of two keyed scenes, a tuple in the order of the first scene."""
    old, new = by_identity(first), by_identity(second)
    before = [name for name in old if new.get(name) == old[name]]
    after = [name for name in new if old.get(name) == new[name]]
    differing = [place for place in range(len(before)) if before[place] != after[place]]
    if not differing:
        return ()
    return tuple(before[differing[0]:differing[-1] + 1])


def by_identity(scene):
    """A dict with the primitives of a keyed scene by their identities, in the order of the scene."""
    return {identity(item): item for item in scene[2]}


def whole_page(size):
    """The damage of a page of another size: the whole page, if it has a pixel."""
    width, height = size
    if width == 0 or height == 0:
        return ()
    return ((0, 0, width, height),)


def damage_of(first, second, draft):
    """The damage of two scenes with pages of one size, by a draft of their difference: a hull for each plot."""
    concerned = set(touched(draft) + moved(first, second))
    parts = {}
    for item in first[2] + second[2]:
        part = visible_part(second, item)
        if identity(item) in concerned and part is not None:
            parts.setdefault(item[0], []).append(part)
    return tuple([hull(tuple(found)) for found in parts.values()])
