"""The futures of the variables of a map as forms."""

from roundknown.calculus import add_any, next_any, put_forms, scale_any, shift_any, value_in
from roundknown.coefficients import constant_of, scale_coefficient, sum_coefficients
from roundknown.errors import BadValue
from roundknown.forms import is_form_of, sized, start_any
from roundknown.layers import check_told, find_parts, part_matrix
from roundknown.maps import is_map, is_state, step
from roundknown.matrices import add_diagonal, eigenvalues, multiply_matrices, unit_matrix
from roundknown.polynomials import variable
from roundknown.rationals import ZERO

# Any start and any number of rounds would do for a first look; few and small ones are fast.
LOOK_START = ((2, 1), (3, 1), (5, 1))
LOOK_ROUNDS = 10


def times_forms(v, matrix, forms):
    """Return the list of the forms that a matrix makes of a list of forms."""
    found = []
    for row in matrix:
        total = ((), ())
        for entry, form in zip(row, forms):
            if entry != ZERO:
                total = add_any(v, total, scale_any(v, form, constant_of(v, entry)))
        found.append(total)
    return found


def times_values(v, matrix, values):
    """Return the list of the coefficients that a matrix makes of a list of coefficients."""
    return [
        sum_coefficients(v, [scale_coefficient(v, item, entry) for entry, item in zip(row, values)])
        for row in matrix
    ]


def solve_part(v, matrix, zeros, starts, drives):
    """Return the forms F with F(0) = starts and F(n + 1) = matrix times F(n), plus drives(n).

    Let E be the step to the next round. With the eigenvalues z1, z2, .. the function
    (E - zj) .. (E - z1) F is product(j) F + rest(j), where product(j) = (A - zj) .. (A - z1)
    and rest(j) is made of drives. The last product is 0 by the theorem of Cayley and Hamilton. So the
    last function is known, and each one before it is a next form of the one behind it.
    """
    product = unit_matrix(len(matrix))
    rest = [((), ()) for _ in matrix]
    begins = []
    for zero in zeros:
        begins.append([
            sum_coefficients(v, [item, value_in(v, form, 0)])
            for item, form in zip(times_values(v, product, starts), rest)
        ])
        opposite = (-zero[0], zero[1])
        moved = [
            add_any(v, shift_any(v, form, 1), scale_any(v, form, constant_of(v, opposite))) for form in rest
        ]
        driven = times_forms(v, product, drives)
        rest = [add_any(v, form, more) for form, more in zip(driven, moved)]
        product = multiply_matrices(add_diagonal(matrix, opposite), product)
    forms = rest
    for zero, begin in reversed(list(zip(zeros, begins))):
        forms = [next_any(v, zero, item, form) for item, form in zip(begin, forms)]
    return forms


def drive_of(v, p, part, forms):
    """Return the drive of a variable of the part with the polynomial p."""
    others = tuple([term for term in p if not any([term[1][i] > 0 for i in part])])
    return put_forms(v, others, forms)


def solve_map(v, rules, starts):
    """Return the tuple of the forms of the futures of a told map from the starts.

    The starts are coefficients of v variables. Raises the error of point 44.
    """
    forms = [((), ()) for _ in rules]
    for part in find_parts(rules):
        matrix = part_matrix(rules, part)
        zeros = [zero for zero, count in eigenvalues(matrix)[0] for _ in range(count)]
        drives = [sized(v, drive_of(v, rules[i], part, forms)) for i in part]
        solved = solve_part(v, matrix, zeros, [starts[i] for i in part], drives)
        for i, form in zip(part, solved):
            forms[i] = sized(v, form)
    return tuple(forms)


def forms_of(rules):
    """Return the tuple of the forms of the futures of the variables."""
    check_told(rules)
    k = len(rules)
    return solve_map(k, rules, [variable(k, i) for i in range(k)])


def future_of(rules, state):
    """Return the tuple of the numeric forms of the futures from the state."""
    if not is_state(rules, state):
        raise BadValue("state")
    check_told(rules)
    return solve_map(0, rules, list(state))


def is_future(rules, forms):
    """Return True if the forms describe the futures of the map."""
    if not is_map(rules):
        raise BadValue("map")
    k = len(rules)
    if not isinstance(forms, tuple) or len(forms) != k or not all([is_form_of(k, form) for form in forms]):
        raise BadValue("forms")
    if [value_in(k, form, 0) for form in forms] != [variable(k, i) for i in range(k)]:
        return False
    if not passes_look(rules, forms):
        return False
    return all([shift_any(k, form, 1) == put_forms(k, p, forms) for p, form in zip(rules, forms)])


def passes_look(rules, forms):
    """Return False if the forms are wrong in the first rounds from one start.

    Wrong forms are found here without products of forms, which can be very long.
    """
    numeric = [start_any(LOOK_START[:len(rules)], form) for form in forms]
    now = tuple([value_in(0, form, 0) for form in numeric])
    for n in range(LOOK_ROUNDS):
        after = tuple([value_in(0, form, n + 1) for form in numeric])
        if after != step(rules, now):
            return False
        now = after
    return True
