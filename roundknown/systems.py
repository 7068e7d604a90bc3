"""Systems of linear conditions: solutions, multipliers, and a judge for both."""

from roundknown.conditions import SIGNS
from roundknown.errors import BadValue
from roundknown.integers import sign_of
from roundknown.maps import is_numbers
from roundknown.rationals import ZERO, are_below, is_whole, times, total_of
from roundknown.simplex import decide

MOST_VARIABLES = 5
MOST_ROWS = 14

# Numerators and denominators of rows are less than this.
BOUND = 1000


def value_at(expression, numbers):
    """Return the value of the linear expression at the numbers."""
    return total_of([expression[0]] + [times(factor, number) for factor, number in zip(expression[1:], numbers)])


def holds_at(row, numbers):
    """Return True if the row holds at the numbers."""
    kind, expression = row
    return sign_of(value_at(expression, numbers)[0]) in SIGNS[kind]


def is_expression(k, x):
    """Return True if x is a linear expression over k variables with the numbers of point 102."""
    return is_numbers(k + 1, x) and are_below(x, BOUND)


def is_condition_row(k, x):
    """Return True if x is a row over k variables with the numbers of point 102."""
    if not isinstance(x, tuple) or len(x) != 2 or not isinstance(x[0], str):
        return False
    return x[0] in SIGNS and is_expression(k, x[1])


def check_system(v, rows):
    """Raise the error of the first wrong argument."""
    if not is_whole(v) or not 1 <= v <= MOST_VARIABLES:
        raise BadValue("v")
    if not isinstance(rows, list) or len(rows) > MOST_ROWS or not all([is_condition_row(v, row) for row in rows]):
        raise BadValue("rows")


def solve_system(v, rows):
    """Return a solution of the system or multipliers for it."""
    check_system(v, rows)
    return decide(v, rows)


def accepts_system(v, rows, answer):
    """Return True if the answer is a solution of the system or multipliers for it."""
    check_system(v, rows)
    if not isinstance(answer, tuple) or len(answer) != 2:
        return False
    word, numbers = answer
    if word == "solution":
        return is_numbers(v, numbers) and all([holds_at(row, numbers) for row in rows])
    return word == "multipliers" and refutes(v, rows, numbers)


def refutes(v, rows, x):
    """Return True if x is a tuple of multipliers for the system, whatever its size."""
    return is_numbers(len(rows), x) and are_multipliers(v, rows, x)


def are_multipliers(v, rows, numbers):
    """Return True if a rational for each row makes multipliers for the system."""
    if any([kind != "eq" and number[0] < 0 for (kind, expression), number in zip(rows, numbers)]):
        return False
    totals = [
        total_of([times(number, expression[i]) for (kind, expression), number in zip(rows, numbers)])
        for i in range(v + 1)
    ]
    if any([total != ZERO for total in totals[1:]]):
        return False
    if totals[0] == ZERO:
        return any([kind == "lt" and number[0] > 0 for (kind, expression), number in zip(rows, numbers)])
    return totals[0][0] > 0
