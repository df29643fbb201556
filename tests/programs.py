"""What the tests of running programs need: machines that have run a text, and their values."""

import unittest
from fractions import Fraction

from fontwinding.machine import Machine
from fontwinding.statements import parse
from tests.support import number, value

OPEN = "beginchar(65, 1, 1, 0); "


def run(text, machine=None, resolution=1):
    """A machine that has run the text."""
    if machine is None:
        machine = Machine(resolution=resolution)
    machine.run(parse(text))
    return machine


def state_of(machine):
    """All that can be seen of a machine, but its variables."""
    equations = machine.equations
    return (
        [(equations.kind(u), equations.form(u)) for u in range(equations.unknowns)], machine.picture.rows(),
        machine.pen(), machine.shown(), machine.is_open, machine.characters_made(), machine.steps_made(),
        machine.labels_made())


def numeric(n):
    """A known numeric value."""
    return ("numeric", (number(n), ()))


def pair(x, y):
    """A known pair."""
    return ("pair", (number(x), ()), (number(y), ()))


def form(constant, **terms):
    """A form; the terms are given as u0=1, u3=Fraction(1, 2) and so on."""
    found = sorted((int(name[1:]), number(factor)) for name, factor in terms.items())
    return (number(constant), tuple(found))


class ProgramCase(unittest.TestCase):
    def shows(self, text, *wanted, resolution=1):
        """The text shows these numbers, given as integers and fractions."""
        machine = run(text, resolution=resolution)
        self.assertEqual([value(n) for n in machine.shown()], [Fraction(n) for n in wanted], text)
        return machine

    def evaluates(self, expression, *wanted, before="", resolution=1):
        """The expression has these numbers."""
        return self.shows(f"{before} show {expression};", *wanted, resolution=resolution)

    def fails(self, error, text, machine=None):
        """The text raises exactly this error; the machine afterwards is returned."""
        if machine is None:
            machine = Machine()
        tree = parse(text)
        with self.assertRaises(error) as caught:
            machine.run(tree)
        self.assertIs(type(caught.exception), error, text)
        return machine

    def refuses(self, error, text, machine=None):
        """The text, one statement, raises this error, and what can be seen of the machine does not change."""
        if machine is None:
            machine = Machine()
        before = state_of(machine)
        self.fails(error, text, machine)
        self.assertEqual(state_of(machine), before, text)
        return machine
