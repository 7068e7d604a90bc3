"""Relations: the polynomials that are 0 after every number of rounds."""

from roundknown.calculus import constant_form, multiply_any, value_in
from roundknown.errors import BadValue
from roundknown.forms import sized
from roundknown.futures import solve_map
from roundknown.layers import check_told
from roundknown.maps import is_state, step
from roundknown.polynomials import degree_of, is_polynomial, polynomial, value
from roundknown.rationals import ONE, ZERO, is_whole, minus, over, times

GREATEST_DEGREE = 3


def check_state(rules, state):
    """Raise the error of a wrong map or a wrong state."""
    if not is_state(rules, state):
        raise BadValue("state")


def check_degree(degree):
    """Raise the error of a wrong degree."""
    if not is_whole(degree) or not 0 <= degree <= GREATEST_DEGREE:
        raise BadValue("degree")


def monomials(variables, degree):
    """Return the list of the monomials up to the degree."""
    if not is_whole(variables) or not 1 <= variables <= 3:
        raise BadValue("variables")
    check_degree(degree)
    return find_monomials(variables, degree)


def find_monomials(k, degree):
    """Return the monomials of k variables in their order."""
    found = [()]
    for _ in range(k):
        found = [head + (exponent,) for head in found for exponent in range(degree + 1 - sum(head))]
    return sorted(found, key=lambda exponents: (sum(exponents), exponents), reverse=True)


def forms_of_monomials(rules, state, degree):
    """Return the dict of the futures of the monomials up to the degree, in ascending order."""
    check_told(rules)
    futures = solve_map(0, rules, list(state))
    found = {}
    for exponents in find_monomials(len(rules), degree)[::-1]:
        form = constant_form(0, ONE)
        if sum(exponents) > 0:
            # Every part of a monomial is a monomial up to the degree, too, so it stands here already.
            i = least_variable(exponents)
            rest = exponents[:i] + (exponents[i] - 1,) + exponents[i + 1:]
            form = sized(0, multiply_any(0, found[rest], futures[i]))
        found[exponents] = form
    return found


def least_variable(exponents):
    """Return the first variable with an exponent greater than 0."""
    return [i for i, exponent in enumerate(exponents) if exponent > 0][0]


def longest_first(forms):
    """Return the greatest length of the first values of a list of forms."""
    return max([len(form[0]) for form in forms])


def enough_for(forms):
    """Return the number of rounds that are enough for relations of functions with these forms."""
    greatest = {}
    for form in forms:
        for base, exponent, coefficient in form[1]:
            greatest[base] = max(greatest.get(base, 0), exponent)
    return longest_first(forms) + sum([exponent + 1 for exponent in list(greatest.values())])


def rounds_enough(rules, state, degree):
    """Return the number of rounds that are enough for the degree."""
    check_state(rules, state)
    check_degree(degree)
    return enough_for(list(forms_of_monomials(rules, state, degree).values()))


def vector_of(form, count):
    """Return a dict of the numbers of a form, without zeros.

    A total of forms is 0 in every round exactly if the same total of their numbers is 0: the coefficients of
    the terms, and the values in the first rounds, as many as count.
    """
    vector = {n: value_in(0, form, n) for n in range(count)}
    for base, exponent, coefficient in form[1]:
        vector[(base, exponent)] = coefficient
    return {key: number for key, number in vector.items() if number != ZERO}


def less_multiple(vector, factor, other):
    """Return the vector less the factor times the other vector."""
    found = {key: vector[key] for key in vector}
    for key, number in other.items():
        found[key] = minus(found.get(key, ZERO), times(factor, number))
    return {key: number for key, number in found.items() if number != ZERO}


def relations(rules, state, degree):
    """Return the reduced basis of the relations up to the degree."""
    check_state(rules, state)
    check_degree(degree)
    forms = forms_of_monomials(rules, state, degree)
    count = longest_first(list(forms.values()))
    found = []
    known = []
    # From the last monomial on: one that depends on those behind it begins a relation, and the others
    # are the only ones that stand in relations behind the first term.
    for exponents, form in forms.items():
        vector = vector_of(form, count)
        parts = {exponents: ONE}
        for pivot, other, others in known:
            if pivot in vector:
                factor = over(vector[pivot], other[pivot])
                vector = less_multiple(vector, factor, other)
                parts = less_multiple(parts, factor, others)
        if vector:
            known.append((list(vector)[0], vector, parts))
        else:
            found.append(polynomial(len(rules), [(number, key) for key, number in parts.items()]))
    return found[::-1]


def find_exception(rules, state, checked):
    """Return the least round in which the polynomial is not 0, or None."""
    check_state(rules, state)
    if not is_polynomial(len(rules), checked) or degree_of(checked) > GREATEST_DEGREE:
        raise BadValue("polynomial")
    forms = forms_of_monomials(rules, state, degree_of(checked))
    numbers = state
    for n in range(enough_for(list(forms.values()))):
        if value(checked, numbers) != ZERO:
            return n
        numbers = step(rules, numbers)
    return None


def accepts_relation(rules, state, checked):
    """Return True if the polynomial is 0 in as many rounds as are enough for its degree."""
    return find_exception(rules, state, checked) is None


def first_exception(rules, state, checked):
    """Return the least round in which the polynomial is not 0, or None if it is a relation."""
    return find_exception(rules, state, checked)
