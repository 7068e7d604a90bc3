"""Maps, states and rounds."""

from roundknown.errors import BadValue, TooLarge
from roundknown.polynomials import is_polynomial, put_in, value
from roundknown.rationals import are_below, is_below, is_rational, is_whole

# A number of at most 400 digits is less than 10 to the power 400.
DIGITS_400 = (10 ** 50) ** 8


def is_rule(k, x):
    """Return True if x is a polynomial of a map of k variables."""
    if not is_polynomial(k, x) or len(x) > 6:
        return False
    return all([max(exponents) <= 3 and is_below(coefficient, 21) for coefficient, exponents in x])


def is_map(x):
    """Return True if x is a map."""
    if not isinstance(x, tuple) or not 1 <= len(x) <= 3:
        return False
    return all([is_rule(len(x), p) for p in x])


def is_numbers(k, x):
    """Return True if x is a tuple of k rationals."""
    return isinstance(x, tuple) and len(x) == k and all([is_rational(number) for number in x])


def is_start(k, x):
    """Return True if x is a state of a map of k variables."""
    return is_numbers(k, x) and all([-1000 <= n <= 1000 and d <= 12 for n, d in x])


def is_state(rules, x):
    """Return True if x is a state of the map."""
    if not is_map(rules):
        raise BadValue("map")
    return is_start(len(rules), x)


def one_round(rules, numbers):
    """Return the numbers after one round of the map."""
    if not is_map(rules):
        raise BadValue("map")
    if not is_numbers(len(rules), numbers):
        raise BadValue("numbers")
    return step(rules, numbers)


def step(rules, numbers):
    """Return the numbers after one round, without a check of the arguments."""
    return tuple([value(p, numbers) for p in rules])


def after_rounds(rules, state, n):
    """Return the state after n rounds of the map."""
    if not is_state(rules, state):
        raise BadValue("state")
    if not is_whole(n) or not 0 <= n <= 60:
        raise BadValue("n")
    numbers = state
    for _ in range(n):
        numbers = step(rules, numbers)
        if not are_below(numbers, DIGITS_400):
            raise TooLarge("numbers")
    return numbers


def compose(first, second):
    """Return the map that does a round of first and then a round of second."""
    if not is_map(first):
        raise BadValue("first")
    if not is_map(second) or len(second) != len(first):
        raise BadValue("second")
    composed = put_together(first, second)
    if not is_map(composed):
        raise TooLarge("map")
    return composed


def put_together(first, second):
    """Return the composition of any size, without a check of the arguments."""
    return tuple([put_in(len(first), p, first) for p in second])
