"""What the statements of a body see: the state of the machine, the steps of the run, and local names."""

from fontwinding.errors import TooDeep, TooLong

MOST_STEPS = 4000
MOST_BLOCKS = 24


class Steps:
    """The steps of a run."""

    def __init__(self):
        self._count = 0

    def begin_step(self):
        """Counts one step more."""
        if self._count >= MOST_STEPS:
            raise TooLong(f"a run has at most {MOST_STEPS} steps")
        self._count += 1


class Scope:
    """The place of a statement: what it works on, the names that stand for values, and the open blocks."""

    def __init__(self, state, steps, names, blocks):
        self.state = state
        self.steps = steps
        self.names = names
        self.blocks = blocks

    def body(self, names):
        """The scope of a body that begins here, with the names that it sees."""
        if self.blocks >= MOST_BLOCKS:
            raise TooDeep(f"at most {MOST_BLOCKS} blocks may be open")
        return Scope(self.state, self.steps, names, self.blocks + 1)


def outermost(state):
    """The scope of a program, at the beginning of a run."""
    return Scope(state, Steps(), {}, 0)
