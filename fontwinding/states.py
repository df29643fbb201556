"""The state of a machine."""

from fontwinding.canvas import Canvas
from fontwinding.equations import Equations
from fontwinding.ligtables import LigatureTable
from fontwinding.variables import Variables


class State:
    """All that the statements of a machine work on."""

    def __init__(self, resolution):
        self.resolution = resolution
        self.equations = Equations()
        self.variables = Variables(self.equations)
        self.canvas = Canvas()
        self.ligatures = LigatureTable()
        self.numbers_shown = []
        # A tuple of parameters and body by each name.
        self.definitions = {}
