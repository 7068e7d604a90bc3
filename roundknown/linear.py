"""Linear expressions (c0, c1, .., ck), linear polynomials, and maps of linear polynomials."""

from roundknown.errors import NotTold
from roundknown.layers import check_told
from roundknown.polynomials import degree_of, polynomial, put_in, variable
from roundknown.rationals import ZERO, plus, times


def negated(expression):
    """Return the expression with all its rationals negated."""
    return tuple([(-n, d) for n, d in expression])


def scaled(expression, factor):
    """Return the expression times the factor."""
    return tuple([times(number, factor) for number in expression])


def joined_sum(first, second):
    """Return the sum of two expressions."""
    return tuple([plus(a, b) for a, b in zip(first, second)])


def is_linear(p):
    """Return True if the polynomial has no term of a degree above 1."""
    return degree_of(p) <= 1


def places_of(k):
    """Return the list of the exponents of the terms that an expression over k variables can have, in its order."""
    return [(0,) * k] + [variable(k, i)[0][1] for i in range(k)]


def expression_of(k, p):
    """Return the expression of a linear polynomial of k variables."""
    found = {exponents: coefficient for coefficient, exponents in p}
    return tuple([found.get(exponents, ZERO) for exponents in places_of(k)])


def polynomial_of(k, expression):
    """Return the polynomial of k variables that the expression is."""
    return polynomial(k, list(zip(expression, places_of(k))))


def after_round(rules, expression):
    """Return the expression of the value after one round of a map of linear polynomials."""
    k = len(rules)
    return expression_of(k, put_in(k, polynomial_of(k, expression), rules))


def check_linear(rules):
    """Raise the error of a map that is not told, or that is not linear."""
    check_told(rules)
    for i, p in enumerate(rules):
        if not is_linear(p):
            raise NotTold(("degree", i))
