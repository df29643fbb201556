"""Fonts, made from the texts of programs."""

from fontwinding.errors import WrongOrder
from fontwinding.fonts import Font
from fontwinding.machine import Machine
from fontwinding.statements import parse


def compile_font(text, *, resolution=1):
    """The font of a program."""
    # The machine comes first: a wrong resolution is refused whatever the text is.
    machine = Machine(resolution=resolution)
    machine.run(parse(text))
    if machine.is_open:
        raise WrongOrder("a character is open at the end")
    return Font(machine.characters_made(), machine.steps_made(), machine.labels_made())
