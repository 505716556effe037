"""Sessions, in which charts are edited and their scenes are rendered for viewers."""

from chartspec.checking import check_spec
from chartspec.damages import diff
from chartspec.drawing import draw
from chartspec.edits import edited, first_numbers
from chartspec.errors import NothingToRedo, NothingToUndo

EMPTY_SCENE = (0, 0, ())


def checked_scene(spec, data):
    """The scene of a specification and data. Raises the errors of the specification, then TooManyCategories."""
    check_spec(spec)
    return draw(spec, data)


def state_after(state, edits):
    """The state (spec, data, numbers) after some edits, and its scene. Raises their errors, then those of the scene."""
    for edit in edits:
        state = edited(state, edit)
    return (state, checked_scene(state[0], state[1]))


class Session:
    """A specification with its data, their changes, and viewers of their scene."""

    def __init__(self, spec, data, *, most=20):
        # Only a specification without errors tells that the data fit it, so it is checked before they are looked at.
        scene = checked_scene(spec, data)
        self._most = most
        # What the session is now: its state and the scene of this state.
        self._now = ((spec, data, first_numbers(data)), scene)
        # The changes that can be undone, the oldest first, and what the session was before each of them.
        self._changes = []
        self._before = []
        # The changes that can be made again, the last one to be taken back last, with what the session was after them.
        self._undone = []
        self._viewers = [EMPTY_SCENE]

    def __len__(self):
        """The number of changes that can be undone."""
        return len(self._changes)

    def __iter__(self):
        """The changes that can be undone, the oldest first."""
        return iter(self._changes)

    @property
    def spec(self):
        """The specification."""
        return self._now[0][0]

    @property
    def data(self):
        """The data."""
        return self._now[0][1]

    @property
    def next_numbers(self):
        """The number of the next row of each data table, a tuple."""
        return self._now[0][2]

    @property
    def scene(self):
        """The scene of the specification and the data."""
        return self._now[1]

    @property
    def can_undo(self):
        """True if a change can be undone, otherwise False."""
        return len(self._changes) > 0

    @property
    def can_redo(self):
        """True if a change can be made again, otherwise False."""
        return len(self._undone) > 0

    def change(self, edits):
        """Carries out a change, a tuple of edits. Raises its first error."""
        after = state_after(self._now[0], edits)
        self._undone = []
        self._step(edits, after)
        if len(self._changes) > self._most:
            del self._changes[0], self._before[0]

    def undo(self):
        """Takes back the last change and returns its edits. Raises NothingToUndo."""
        if not self._changes:
            raise NothingToUndo()
        edits = self._changes.pop()
        self._undone.append((edits, self._now))
        self._now = self._before.pop()
        return edits

    def redo(self):
        """Makes the change again that was taken back last, and returns its edits. Raises NothingToRedo."""
        if not self._undone:
            raise NothingToRedo()
        edits, after = self._undone.pop()
        self._step(edits, after)
        return edits

    def attach(self):
        """Attaches a viewer and returns its number."""
        self._viewers.append(EMPTY_SCENE)
        return len(self._viewers) - 1

    def render(self, viewer=0):
        """The patch that leads from the scene of a viewer to that of the session, which the viewer then has."""
        patch = diff(self._viewers[viewer], self.scene)
        self._viewers[viewer] = self.scene
        return patch

    def preview(self, edits, *, viewer=0):
        """The patch that rendering for a viewer would return after a change. Raises the first error of the change."""
        _, scene = state_after(self._now[0], edits)
        return diff(self._viewers[viewer], scene)

    def seen(self, viewer):
        """The scene of a viewer."""
        return self._viewers[viewer]

    def _step(self, edits, after):
        """Goes on to what the session is after a change."""
        self._changes.append(edits)
        self._before.append(self._now)
        self._now = after
