"""Polynomials of one variable with integer coefficients, given from the power 0 on, and their signs."""

from math import comb


def value_of(coefficients, n):
    """Return the value of the polynomial at the integer n."""
    total = 0
    for coefficient in reversed(coefficients):
        total = total * n + coefficient
    return total


def sign_of(number):
    """Return the sign of an integer: -1, 0 or 1."""
    if number > 0:
        return 1
    return -1 if number < 0 else 0


def difference(coefficients):
    """Return the polynomial that has at n the value at n + 1 less the value at n."""
    found = [0] * (len(coefficients) - 1)
    for above in range(1, len(coefficients)):
        for below in range(above):
            found[below] += comb(above, below) * coefficients[above]
    return found


def first_change(coefficients, low, high):
    """Return the least n above low whose sign is not that at low, up to high, where it has changed.

    Between low and high the values only rise or only fall.
    """
    sign = sign_of(value_of(coefficients, low))
    while high - low > 1:
        middle = (low + high) // 2
        if sign_of(value_of(coefficients, middle)) == sign:
            low = middle
        else:
            high = middle
    return high


def sign_runs(coefficients, low, high):
    """Return the signs at the integers from low to high as a list of (start, sign).

    The first start is low, the starts are ascending, and neighbouring signs differ.
    """
    runs = [(low, sign_of(value_of(coefficients, low)))]
    if len(coefficients) < 2:
        return runs
    # Where the difference keeps one sign, the values move in one direction, so halving finds each change.
    begin = low
    ends = [start for start, sign in sign_runs(difference(coefficients), low, high)]
    for end in [*ends[1:], high]:
        last = sign_of(value_of(coefficients, end))
        while runs[-1][1] != last:
            begin = first_change(coefficients, begin, end)
            runs.append((begin, sign_of(value_of(coefficients, begin))))
        begin = end
    return runs


def zeros_between(coefficients, low, high):
    """Return the list of the integers from low to high at which the polynomial is 0, ascending."""
    runs = sign_runs(coefficients, low, high)
    ends = [start for start, sign in runs[1:]] + [high + 1]
    zeros = []
    for (start, sign), end in zip(runs, ends):
        if sign == 0:
            zeros.extend(list(range(start, end)))
    return zeros


def divided(coefficients, zero):
    """Return the polynomial divided by t - zero, where zero is an integer at which it is 0."""
    found = []
    carry = 0
    for coefficient in reversed(coefficients):
        carry = carry * zero + coefficient
        found.append(carry)
    # The last carry is the remainder, which is 0.
    return found[-2::-1]
