"""Coefficients of forms of v variables: polynomials of v variables, or rationals if v is 0."""

from roundknown.polynomials import constant, is_polynomial, multiply, polynomial, scale
from roundknown.rationals import is_below, is_rational, times, total_of

# A number of at most 60 digits is less than this.
DIGITS_60 = 10 ** 60


def constant_of(v, c):
    """Return the coefficient that is the rational c."""
    return constant(v, c) if v > 0 else c


def sum_coefficients(v, items):
    """Return the sum of a list of coefficients."""
    if v > 0:
        return polynomial(v, [term for p in items for term in p])
    return total_of(items)


def multiply_coefficients(v, a, b):
    """Return the product of two coefficients."""
    return multiply(a, b) if v > 0 else times(a, b)


def scale_coefficient(v, a, c):
    """Return the coefficient a times the rational c."""
    return scale(a, c) if v > 0 else times(a, c)


def numbers_below(v, a, bound):
    """Return True if the numerators and denominators of the coefficient are below bound."""
    if v == 0:
        return is_below(a, bound)
    return all([is_below(number, bound) for number, exponents in a])


def is_short(v, a):
    """Return True if the coefficient is within the limits of point 37."""
    if not numbers_below(v, a, DIGITS_60):
        return False
    if v == 0:
        return True
    return len(a) <= 40 and all([max(exponents) <= 8 for number, exponents in a])


def is_coefficient(v, x):
    """Return True if x is a coefficient within the limits of point 37."""
    right = is_polynomial(v, x) if v > 0 else is_rational(x)
    return right and is_short(v, x)
