"""Unknowns and the linear equations between them."""

from fontwinding.errors import Contradiction, OutOfRange, TooMany
from fontwinding.forms import add_forms, known_form, replace_unknown, scale_form, subtract_forms, unknown_form
from fontwinding.ratios import ZERO, divide

MOST_UNKNOWNS = 80
MINUS_ONE = (-1, 1)


class Equations:
    """Unknowns, each free, known or dependent on free ones."""

    def __init__(self):
        self._forms = []

    def new_unknown(self):
        """Creates a free unknown and returns it."""
        unknown = len(self._forms)
        if unknown >= MOST_UNKNOWNS:
            raise TooMany(f"there are {MOST_UNKNOWNS} unknowns already")
        self._forms.append(unknown_form(unknown))
        return unknown

    @property
    def unknowns(self):
        """The number of unknowns."""
        return len(self._forms)

    def kind(self, unknown):
        """`"free"`, `"known"` or `"dependent"`."""
        form = self.form(unknown)
        if not form[1]:
            return "known"
        # A dependent unknown never has itself in its form, because it is not free.
        if form == unknown_form(unknown):
            return "free"
        return "dependent"

    def form(self, unknown):
        """The form of an unknown."""
        if not 0 <= unknown < len(self._forms):
            raise OutOfRange("there is no such unknown")
        return self._forms[unknown]

    def reduce(self, form):
        """The form with each unknown replaced by its own form."""
        reduced = known_form(form[0])
        for unknown, factor in form[1]:
            reduced = add_forms(reduced, scale_form(self._forms[unknown], factor))
        return reduced

    def equate(self, left, right):
        """Adds the equation of two forms; False if it says nothing new."""
        constant, terms = self.reduce(subtract_forms(left, right))
        if terms:
            unknown, factor = terms[-1]
            rest = scale_form((constant, terms[:-1]), divide(MINUS_ONE, factor))
            self._forms = self._forms_with(unknown, rest)
            return True
        if constant != ZERO:
            raise Contradiction("an equation contradicts the earlier ones")
        return False

    def _forms_with(self, unknown, rest):
        # A new list, so that nothing has changed if one of the replacements is too great.
        forms = []
        for at, form in enumerate(self._forms):
            if at == unknown:
                forms.append(rest)
            else:
                forms.append(replace_unknown(form, unknown, rest))
        return forms
