"""Matrices, their characteristic polynomials and the rational zeros of polynomials."""

from roundknown.errors import BadValue
from roundknown.integers import divided, value_of, zeros_between
from roundknown.rationals import ONE, ZERO, common_bottom, is_below, is_rational, over, plus, ratio, times, total_of

# A number of at most 40 digits is less than this.
DIGITS_40 = 10 ** 40


def is_row(k, x):
    """Return True if x is a row of a matrix of k rows."""
    if not isinstance(x, tuple) or len(x) != k:
        return False
    return all([is_rational(entry) and is_below(entry, 1001) for entry in x])


def is_matrix(x):
    """Return True if x is a matrix."""
    if not isinstance(x, tuple) or not 1 <= len(x) <= 4:
        return False
    return all([is_row(len(x), row) for row in x])


def multiply_matrices(first, second):
    """Return the product of two square matrices with rationals of any size."""
    columns = list(zip(*second))
    return tuple([
        tuple([total_of([times(a, b) for a, b in zip(row, column)]) for column in columns]) for row in first
    ])


def add_diagonal(matrix, number):
    """Return the matrix plus the number in its diagonal."""
    return tuple([
        tuple([plus(entry, number) if i == j else entry for j, entry in enumerate(row)])
        for i, row in enumerate(matrix)
    ])


def trace(matrix):
    """Return the sum of the diagonal."""
    return total_of([row[i] for i, row in enumerate(matrix)])


def unit_matrix(k):
    """Return the matrix of k rows with 1 in the diagonal and 0 elsewhere."""
    return tuple([tuple([ONE if i == j else ZERO for j in range(k)]) for i in range(k)])


def characteristic(matrix):
    """Return the coefficients of the characteristic polynomial, for the powers from 0 on."""
    if not is_matrix(matrix):
        raise BadValue("matrix")
    # The method of Faddeev and LeVerrier: only sums, products and a division by the count of the step.
    found = [ONE]
    helper = unit_matrix(len(matrix))
    for count in range(1, len(matrix) + 1):
        helper = multiply_matrices(matrix, helper)
        coefficient = over(trace(helper), (-count, 1))
        found.append(coefficient)
        helper = add_diagonal(helper, coefficient)
    return tuple(found[::-1])


def rational_zeros(coefficients):
    """Return the rational zeros with their multiplicities, ascending."""
    if not isinstance(coefficients, tuple) or not 1 <= len(coefficients) <= 5:
        raise BadValue("coefficients")
    if not all([is_rational(c) and is_below(c, DIGITS_40) for c in coefficients]) or coefficients[-1] == ZERO:
        raise BadValue("coefficients")
    return find_zeros(coefficients)


def find_zeros(coefficients):
    """Return the rational zeros with their multiplicities, for coefficients of any size."""
    whole = whole_coefficients(coefficients)
    top = whole[-1]
    # With y in place of top * t, the greatest power has the coefficient 1, so rational zeros are integers.
    scaled = [1]
    factor = 1
    for coefficient in whole[-2::-1]:
        scaled.append(coefficient * factor)
        factor = factor * top
    scaled = scaled[::-1]
    # No zero is greater than 1 plus the greatest quotient of another coefficient and the last one.
    bound = top + max([abs(coefficient) for coefficient in whole])
    found = zeros_between(scaled, -bound, bound)
    return tuple([(ratio(zero, top), multiplicity_of(scaled, zero)) for zero in found])


def whole_coefficients(coefficients):
    """Return integers that are a common multiple of the coefficients, with a last one above 0."""
    bottom = common_bottom(coefficients)
    if coefficients[-1][0] < 0:
        bottom = -bottom
    return [n * bottom // d for n, d in coefficients]


def multiplicity_of(coefficients, zero):
    """Return how often t - zero divides the polynomial."""
    count = 0
    while value_of(coefficients, zero) == 0:
        coefficients = divided(coefficients, zero)
        count += 1
    return count


def eigenvalues(matrix):
    """Return the eigenvalues with their multiplicities, and whether the matrix splits."""
    found = find_zeros(characteristic(matrix))
    return (found, sum([count for zero, count in found]) == len(matrix))
