"""Linear forms: tuples `(constant, terms)`, the terms in ascending order of their unknowns."""

from fontwinding.ratios import ONE, ZERO, add, multiply, subtract


def known_form(number):
    """The form of a number."""
    return (number, ())


def unknown_form(unknown):
    """The form of an unknown itself."""
    return (ZERO, ((unknown, ONE),))


def add_forms(a, b):
    """The sum of two forms."""
    return combine_forms(a, b, add)


def subtract_forms(a, b):
    """The difference of two forms."""
    return combine_forms(a, b, subtract)


def combine_forms(a, b, operation):
    """The form that an operation on two numbers makes from two forms, part by part."""
    constant = operation(a[0], b[0])
    left = dict(a[1])
    right = dict(b[1])
    terms = []
    for unknown in sorted({**left, **right}):
        number = operation(left.get(unknown, ZERO), right.get(unknown, ZERO))
        if number != ZERO:
            terms.append((unknown, number))
    return (constant, tuple(terms))


def scale_form(form, number):
    """The form multiplied by a number."""
    constant = multiply(form[0], number)
    terms = []
    for unknown, factor in form[1]:
        scaled = multiply(factor, number)
        if scaled != ZERO:
            terms.append((unknown, scaled))
    return (constant, tuple(terms))


def replace_unknown(form, unknown, other):
    """The form with the unknown replaced by the form `other`."""
    factor = coefficient(form, unknown)
    if factor == ZERO:
        return form
    terms = [term for term in form[1] if term[0] != unknown]
    return add_forms((form[0], tuple(terms)), scale_form(other, factor))


def coefficient(form, unknown):
    """The coefficient of the unknown in the form, zero if the form does not have it."""
    for at, factor in form[1]:
        if at == unknown:
            return factor
    return ZERO
