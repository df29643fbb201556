"""The variables of a machine."""

from fontwinding.equations import MOST_UNKNOWNS
from fontwinding.errors import OutOfRange, TooMany, UnknownValue
from fontwinding.forms import unknown_form
from fontwinding.values import known_value, path_in, reduced

# `z` is the pair of `x` and `y`, so none of the three has a kind of its own.
POINT_NAMES = ("x", "y", "z")


class Variables:
    """The kinds of names, and the values of the variables that have been used or assigned."""

    def __init__(self, equations):
        self._equations = equations
        self._kinds = {}
        self._values = {}

    def kind_of(self, name):
        """The kind of the variables of a name."""
        if name == "z":
            return "pair"
        return self._kinds.get(name, "numeric")

    def declare(self, kind, names):
        """Makes all variables of the names new, and of this kind."""
        for name in names:
            if name in POINT_NAMES:
                raise OutOfRange(f"{name} cannot be declared")
        for name in names:
            self._kinds[name] = kind
        self.renew(names)

    def renew(self, names):
        """Makes all variables of the names new: they have not been used and not been assigned."""
        self._values = {key: value for key, value in self._values.items() if key[0] not in names}

    def use(self, name, subscript):
        """The value of a variable; one that is used for the first time gets unknowns."""
        if name == "z":
            x = self.use("x", subscript)
            y = self.use("y", subscript)
            return ("pair", x[1], y[1])
        key = (name, subscript)
        if key not in self._values:
            self._values[key] = self._unknown_value(name)
        return self._values[key]

    def _unknown_value(self, name):
        kind = self.kind_of(name)
        if kind == "numeric":
            return ("numeric", unknown_form(self._equations.new_unknown()))
        if kind == "pair":
            # Neither unknown is created if there is no room for both.
            if self._equations.unknowns + 2 > MOST_UNKNOWNS:
                raise TooMany(f"there are at most {MOST_UNKNOWNS} unknowns")
            x = unknown_form(self._equations.new_unknown())
            return ("pair", x, unknown_form(self._equations.new_unknown()))
        raise UnknownValue(f"{name} has not been assigned")

    def assign(self, name, subscript, value):
        """Gives a variable a value, which must be of its kind and known."""
        kind = self.kind_of(name)
        kinds = (kind,)
        if kind == "path":
            kinds = ("path", "pair")
        found = known_value(self._equations, value, kinds)
        if name == "z":
            self._values[("x", subscript)] = ("numeric", found[1])
            self._values[("y", subscript)] = ("numeric", found[2])
        elif kind == "path":
            self._values[(name, subscript)] = ("path", path_in(found))
        else:
            self._values[(name, subscript)] = found

    def look(self, name, subscript):
        """The value of a variable with its forms reduced, or None if it has not been used or assigned."""
        if name == "z":
            x = self.look("x", subscript)
            y = self.look("y", subscript)
            if x is None or y is None:
                return None
            return ("pair", x[1], y[1])
        if (name, subscript) not in self._values:
            return None
        return reduced(self._equations, self._values[(name, subscript)])
