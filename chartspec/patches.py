"""Patches (size, removed, put, order, damage), which lead from a keyed scene to another one."""

from chartspec.errors import PatchDoesNotFit
from chartspec.scenes import identities, identity


def merged_order(scene, patch):
    """The identities after a patch that tells no order, a tuple."""
    _, removed, put, _, _ = patch
    gone = set(removed)
    old = identities(scene[2])
    there = set(old)
    # A dict keeps each new identity once, in the order in which it is first put.
    new = {name: True for name in identities(put) if name not in there}
    return tuple([name for name in old if name not in gone]) + tuple(new)


def touched(patch):
    """The identities that the patch removes, then those that it puts, a tuple."""
    _, removed, put, _, _ = patch
    return removed + identities(put)


def misfit(scene, patch):
    """The first reason for which the patch does not fit the scene, a pair, or None if it fits."""
    _, removed, put, order, _ = patch
    found = listing_misfit(removed, identities(scene[2]), "removed twice", "not there")
    if found is None:
        found = put_misfit(removed, identities(put))
    if found is None and order is not None:
        found = order_misfit(merged_order(scene, patch), order)
    return found


def listing_misfit(names, known, twice, unknown):
    """The first of the names that comes twice or is not a known one, behind the word for this, or None."""
    expected = set(known)
    seen = set()
    for name in names:
        if name in seen:
            return (twice, name)
        if name not in expected:
            return (unknown, name)
        seen.add(name)
    return None


def put_misfit(removed, names):
    """The first of the names that is put twice or is removed, too, behind the word for this, or None."""
    gone = set(removed)
    seen = set()
    for name in names:
        if name in seen:
            return ("put twice", name)
        if name in gone:
            return ("removed and put", name)
        seen.add(name)
    return None


def order_misfit(merged, order):
    """The first identity that the order has twice, too much or not at all, behind the word for this, or None."""
    found = listing_misfit(order, merged, "ordered twice", "not expected")
    if found is not None:
        return found
    ordered = set(order)
    for name in merged:
        if name not in ordered:
            return ("not ordered", name)
    return None


def patched(scene, patch):
    """The scene after the patch. Raises PatchDoesNotFit."""
    reason = misfit(scene, patch)
    if reason is not None:
        raise PatchDoesNotFit(reason)
    size, _, put, order, _ = patch
    width, height, items = scene
    if size is not None:
        width, height = size
    names = merged_order(scene, patch) if order is None else order
    # Later entries replace earlier ones: what is put stands in place of what was there.
    latest = {identity(item): item for item in items + put}
    return (width, height, tuple([latest[name] for name in names]))
