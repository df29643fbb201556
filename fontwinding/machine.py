"""The machine that runs programs."""

from fontwinding.errors import OutOfRange
from fontwinding.running import run_statements
from fontwinding.scopes import outermost
from fontwinding.states import State

MOST_RESOLUTION = 20


class Machine:
    """Runs the statements of programs, one run after the other."""

    def __init__(self, *, resolution=1):
        if not 1 <= resolution <= MOST_RESOLUTION:
            raise OutOfRange(f"the resolution is not from 1 to {MOST_RESOLUTION}")
        self._state = State(resolution)
        self.equations = self._state.equations
        self.picture = self._state.canvas.picture

    def run(self, tree):
        """Runs the statements of a tree in order."""
        run_statements(outermost(self._state), tree)

    def value(self, name, subscript=None):
        """The value of a variable now, or None if it has not been used and not been assigned."""
        return self._state.variables.look(name, subscript)

    def shown(self):
        """The list of the shown numbers."""
        return list(self._state.numbers_shown)

    def pen(self):
        """The list of the corners of the pen."""
        return self._state.canvas.pen_corners()

    @property
    def is_open(self):
        """True if a character is open."""
        return self._state.canvas.opened is not None

    def characters_made(self):
        """The tuple of the characters in ascending order of their codes."""
        return self._state.canvas.characters_made()

    def steps_made(self):
        """The tuple of the steps of ligatures and kerns."""
        return self._state.ligatures.steps_made()

    def labels_made(self):
        """The tuple of the labels in ascending order of their codes."""
        return self._state.ligatures.labels_made()
