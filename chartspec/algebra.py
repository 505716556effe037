"""Inverses and compositions of patches."""

from chartspec.damages import diff
from chartspec.patches import patched


def inverse(scene, patch):
    """The patch that leads back from the scene after the patch to the scene. Raises PatchDoesNotFit."""
    return diff(patched(scene, patch), scene)


def composed(scene, patches):
    """The patch that leads from the scene to the scene after all patches of a tuple. Raises PatchDoesNotFit."""
    after = scene
    for patch in patches:
        after = patched(after, patch)
    return diff(scene, after)
