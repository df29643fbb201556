"""What the operations of expressions take: the kinds of their operands, and which may be unknown."""

from fontwinding.errors import WrongKind
from fontwinding.values import check_known, reduced

# The combinations of kinds that each operation takes. A pair stands for the path of one knot
# wherever a function takes a path.
SIGNATURES = {
    "pair": (("numeric", "numeric"),),
    "minus": (("numeric",), ("pair",)),
    "not": (("truth",),),
    "+": (("numeric", "numeric"), ("pair", "pair")),
    "-": (("numeric", "numeric"), ("pair", "pair")),
    "*": (("numeric", "numeric"), ("numeric", "pair"), ("pair", "numeric")),
    "/": (("numeric", "numeric"), ("pair", "numeric")),
    "div": (("numeric", "numeric"),),
    "mod": (("numeric", "numeric"),),
    "<": (("numeric", "numeric"),),
    "<=": (("numeric", "numeric"),),
    ">": (("numeric", "numeric"),),
    ">=": (("numeric", "numeric"),),
    "==": (("numeric", "numeric"), ("pair", "pair"), ("transform", "transform"), ("truth", "truth")),
    "<>": (("numeric", "numeric"), ("pair", "pair"), ("transform", "transform"), ("truth", "truth")),
    "shifted": (("pair", "pair"), ("path", "pair"), ("transform", "pair")),
    "scaled": (("pair", "numeric"), ("path", "numeric"), ("transform", "numeric")),
    "xscaled": (("pair", "numeric"), ("path", "numeric"), ("transform", "numeric")),
    "yscaled": (("pair", "numeric"), ("path", "numeric"), ("transform", "numeric")),
    "slanted": (("pair", "numeric"), ("path", "numeric"), ("transform", "numeric")),
    "rotated": (("pair", "numeric"), ("path", "numeric"), ("transform", "numeric")),
    "transformed": (("pair", "transform"), ("path", "transform"), ("transform", "transform")),
    "floor": (("numeric",),),
    "round": (("numeric",),),
    "min": (("numeric", "numeric"),),
    "max": (("numeric", "numeric"),),
    "xpart": (("pair",),),
    "ypart": (("pair",),),
    "known": (("numeric",), ("pair",)),
    "dot": (("pair", "pair"),),
    "way": (("numeric", "numeric", "numeric"), ("numeric", "pair", "pair")),
    "length": (("path",), ("pair",)),
    "point": (("numeric", "path"), ("numeric", "pair")),
    "subpath": (("numeric", "numeric", "path"), ("numeric", "numeric", "pair")),
    "reverse": (("path",), ("pair",)),
    "winding": (("path", "pair"), ("pair", "pair")),
    "area": (("path",), ("pair",)),
    "inverse": (("transform",),),
    "top": (("pair",),),
    "bot": (("pair",),),
    "lft": (("pair",),),
    "rt": (("pair",),),
}

# How many operands, from the left, may be unknown; none for the operations that are not here.
MAY_BE_UNKNOWN = {
    "pair": 2,
    "minus": 1,
    "+": 2,
    "-": 2,
    # The product itself refuses operands of which too many are unknown.
    "*": 2,
    "/": 1,
    "shifted": 1,
    "scaled": 1,
    "xscaled": 1,
    "yscaled": 1,
    "slanted": 1,
    "rotated": 1,
    "transformed": 1,
    "xpart": 1,
    "ypart": 1,
    "known": 1,
    "way": 3,
    "top": 1,
    "bot": 1,
    "lft": 1,
    "rt": 1,
}


def prepared(equations, word, values):
    """The list of the operands of an operation: of the right kinds, reduced, and known where they must be."""
    kinds = tuple(value[0] for value in values)
    if kinds not in SIGNATURES[word]:
        raise WrongKind(f"{word} does not take these kinds of values")
    operands = [reduced(equations, value) for value in values]
    for operand in operands[MAY_BE_UNKNOWN.get(word, 0):]:
        check_known(operand)
    return operands
