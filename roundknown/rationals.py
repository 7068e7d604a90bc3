"""Exact rationals: tuples (n, d) in lowest terms with d at least 1."""

from math import gcd, lcm

from roundknown.errors import BadValue

ZERO = (0, 1)
ONE = (1, 1)


def ratio(n, d):
    """Return the rational n divided by d in lowest terms."""
    if d == 0:
        raise BadValue("d")
    common = gcd(n, d)
    if d < 0:
        common = -common
    return (n // common, d // common)


def plus(a, b):
    """Return the sum of two rationals."""
    return ratio(a[0] * b[1] + b[0] * a[1], a[1] * b[1])


def minus(a, b):
    """Return the difference of two rationals."""
    return ratio(a[0] * b[1] - b[0] * a[1], a[1] * b[1])


def times(a, b):
    """Return the product of two rationals."""
    return ratio(a[0] * b[0], a[1] * b[1])


def over(a, b):
    """Return the quotient of two rationals."""
    if b[0] == 0:
        raise BadValue("b")
    return ratio(a[0] * b[1], a[1] * b[0])


def power(a, n):
    """Return the rational a to the exponent n, which is at least 0."""
    top, bottom = ONE
    up, down = a
    # Powers of numbers without a common divisor have none either, so nothing is reduced.
    while n > 0:
        if n & 1:
            top = top * up
            bottom = bottom * down
        n = n >> 1
        if n > 0:
            up = up * up
            down = down * down
    return (top, bottom)


def less(a, b):
    """Return True if a is less than b."""
    return a[0] * b[1] < b[0] * a[1]


def common_bottom(numbers):
    """Return the least common denominator of a list of rationals."""
    bottom = 1
    for number in numbers:
        bottom = lcm(bottom, number[1])
    return bottom


def total_of(numbers):
    """Return the sum of a list of rationals."""
    if len(numbers) == 1:
        return numbers[0]
    # Long numbers are reduced only once.
    bottom = common_bottom(numbers)
    return ratio(sum([n * (bottom // d) for n, d in numbers]), bottom)


def is_whole(x):
    """Return True if x is an integer; True and False are none."""
    return isinstance(x, int) and not isinstance(x, bool)


def is_rational(x):
    """Return True if x is a rational."""
    if not isinstance(x, tuple) or len(x) != 2:
        return False
    if not is_whole(x[0]) or not is_whole(x[1]):
        return False
    return x[1] >= 1 and gcd(x[0], x[1]) == 1


def is_below(a, bound):
    """Return True if the absolute value of the numerator and the denominator are less than bound."""
    return -bound < a[0] < bound and a[1] < bound


def are_below(numbers, bound):
    """Return True if all rationals of a tuple or list are below bound as is_below says."""
    return all([is_below(number, bound) for number in numbers])
