"""What the operations of expressions take: the kinds of their operands, and which may be unknown."""

from fontwinding.errors import WrongKind
from fontwinding.values import check_known, reduced

NUMBERS = (("numeric", "numeric"),)
FORMS = (("numeric",), ("pair",))
SAME_FORMS = (("numeric", "numeric"), ("pair", "pair"))
SAME_VALUES = (("numeric", "numeric"), ("pair", "pair"), ("transform", "transform"), ("truth", "truth"))
MOVED_BY_NUMBER = (("pair", "numeric"), ("path", "numeric"), ("transform", "numeric"))
ONE_NUMBER = (("numeric",),)
ONE_PAIR = (("pair",),)
# A pair stands for the path of one knot wherever a function takes a path.
ONE_PATH = (("path",), ("pair",))

# The combinations of kinds that each operation takes.
SIGNATURES = {
    "pair": NUMBERS,
    "minus": FORMS,
    "not": (("truth",),),
    "+": SAME_FORMS,
    "-": SAME_FORMS,
    "*": (("numeric", "numeric"), ("numeric", "pair"), ("pair", "numeric")),
    "/": (("numeric", "numeric"), ("pair", "numeric")),
    "div": NUMBERS,
    "mod": NUMBERS,
    "<": NUMBERS,
    "<=": NUMBERS,
    ">": NUMBERS,
    ">=": NUMBERS,
    "==": SAME_VALUES,
    "<>": SAME_VALUES,
    "shifted": (("pair", "pair"), ("path", "pair"), ("transform", "pair")),
    "scaled": MOVED_BY_NUMBER,
    "xscaled": MOVED_BY_NUMBER,
    "yscaled": MOVED_BY_NUMBER,
    "slanted": MOVED_BY_NUMBER,
    "rotated": MOVED_BY_NUMBER,
    "transformed": (("pair", "transform"), ("path", "transform"), ("transform", "transform")),
    "floor": ONE_NUMBER,
    "round": ONE_NUMBER,
    "min": NUMBERS,
    "max": NUMBERS,
    "xpart": ONE_PAIR,
    "ypart": ONE_PAIR,
    "known": FORMS,
    "dot": (("pair", "pair"),),
    "way": (("numeric", "numeric", "numeric"), ("numeric", "pair", "pair")),
    "length": ONE_PATH,
    "point": (("numeric", "path"), ("numeric", "pair")),
    "subpath": (("numeric", "numeric", "path"), ("numeric", "numeric", "pair")),
    "reverse": ONE_PATH,
    "winding": (("path", "pair"), ("pair", "pair")),
    "area": ONE_PATH,
    "inverse": (("transform",),),
    "top": ONE_PAIR,
    "bot": ONE_PAIR,
    "lft": ONE_PAIR,
    "rt": ONE_PAIR,
}

# How many operands, from the left, may be unknown; none for the operations that are not here.
MAY_BE_UNKNOWN = {
    "pair": 2,
    "minus": 1,
    "+": 2,
    "-": 2,
    # The product itself refuses operands of which too many are unknown.
    "*": 2,
    "/": 1,
    "shifted": 1,
    "scaled": 1,
    "xscaled": 1,
    "yscaled": 1,
    "slanted": 1,
    "rotated": 1,
    "transformed": 1,
    "xpart": 1,
    "ypart": 1,
    "known": 1,
    "way": 3,
    "top": 1,
    "bot": 1,
    "lft": 1,
    "rt": 1,
}


def prepared(equations, word, values):
    """The list of the operands of an operation: of the right kinds, reduced, and known where they must be."""
    kinds = tuple(value[0] for value in values)
    if kinds not in SIGNATURES[word]:
        raise WrongKind(f"{word} does not take these kinds of values")
    operands = [reduced(equations, value) for value in values]
    for operand in operands[MAY_BE_UNKNOWN.get(word, 0):]:
        check_known(operand)
    return operands
