"""Forms of v variables within the size of point 37."""

from roundknown.calculus import add_any, make_form, multiply_any, next_any, pairs_of, scale_any, shift_any
from roundknown.calculus import sum_at, value_in
from roundknown.coefficients import DIGITS_60, constant_of, is_coefficient, is_short, numbers_below
from roundknown.errors import BadValue, TooLarge
from roundknown.maps import DIGITS_400, is_numbers
from roundknown.polynomials import value
from roundknown.rationals import ONE, ZERO, is_below, is_rational, is_whole, less


def check_variables(variables):
    """Raise the error of a wrong number of variables."""
    if not is_whole(variables) or not 0 <= variables <= 3:
        raise BadValue("variables")


def is_term_of(v, x):
    """Return True if x is a term of a form within size."""
    if not isinstance(x, tuple) or len(x) != 3:
        return False
    base, exponent, coefficient = x
    if not is_rational(base) or base == ZERO or not is_below(base, DIGITS_60):
        return False
    if not is_whole(exponent) or not 0 <= exponent <= 8:
        return False
    return is_coefficient(v, coefficient) and coefficient != constant_of(v, ZERO)


def comes_before(term, other):
    """Return True if the term of a form comes before the other one."""
    return less(term[0], other[0]) or (term[0] == other[0] and term[1] < other[1])


def has_shape(v, x):
    """Return True if x is a form of v variables within size, but for the length of its first values."""
    if not isinstance(x, tuple) or len(x) != 2:
        return False
    first, terms = x
    if not isinstance(first, tuple) or len(first) > 8 or not isinstance(terms, tuple) or len(terms) > 30:
        return False
    if not all([is_coefficient(v, item) for item in first]) or not all([is_term_of(v, term) for term in terms]):
        return False
    return all([comes_before(term, other) for term, other in zip(terms, terms[1:])])


def is_form_of(v, x):
    """Return True if x is a form of v variables within size."""
    if not has_shape(v, x):
        return False
    first, terms = x
    return not first or first[-1] != sum_at(v, terms, len(first) - 1)


def is_form(variables, x):
    """Return True if x is a form of this number of variables within size."""
    check_variables(variables)
    return is_form_of(variables, x)


def is_within_size(v, form):
    """Return True if what surely is a form is within size."""
    first, terms = form
    if len(first) > 8 or len(terms) > 30 or not all([is_short(v, item) for item in first]):
        return False
    return all([
        is_below(base, DIGITS_60) and exponent <= 8 and is_short(v, coefficient)
        for base, exponent, coefficient in terms
    ])


def sized(v, form):
    """Return the form, or raise the error if it is not within size."""
    if not is_within_size(v, form):
        raise TooLarge("form")
    return form


def check_two(variables, first, second):
    """Raise the error of the first wrong argument."""
    check_variables(variables)
    if not is_form_of(variables, first):
        raise BadValue("first")
    if not is_form_of(variables, second):
        raise BadValue("second")


def check_form(variables, form):
    """Raise the error of the first wrong argument."""
    check_variables(variables)
    if not is_form_of(variables, form):
        raise BadValue("form")


def add_forms(variables, first, second):
    """Return the form of the sum."""
    check_two(variables, first, second)
    return sized(variables, add_any(variables, first, second))


def multiply_forms(variables, first, second):
    """Return the form of the product."""
    check_two(variables, first, second)
    return sized(variables, multiply_any(variables, first, second))


def scale_form(variables, form, coefficient):
    """Return the form times the coefficient."""
    check_form(variables, form)
    if not is_coefficient(variables, coefficient):
        raise BadValue("coefficient")
    return sized(variables, scale_any(variables, form, coefficient))


def shift_form(variables, form, rounds):
    """Return the form shifted by this number of rounds."""
    check_form(variables, form)
    if not is_whole(rounds) or not 0 <= rounds <= 20:
        raise BadValue("rounds")
    return sized(variables, shift_any(variables, form, rounds))


def sum_form(variables, form):
    """Return the form of the running total."""
    check_form(variables, form)
    return sized(variables, next_any(variables, ONE, constant_of(variables, ZERO), form))


def next_form(variables, factor, start, form):
    """Return the form that begins with start, and then is factor times itself plus the given form."""
    check_variables(variables)
    if not is_rational(factor) or not is_below(factor, DIGITS_60):
        raise BadValue("factor")
    if not is_coefficient(variables, start):
        raise BadValue("start")
    check_form(variables, form)
    return sized(variables, next_any(variables, factor, start, form))


def form_at(variables, form, n):
    """Return the value of the form in round n."""
    check_form(variables, form)
    if not is_whole(n) or not 0 <= n <= 400:
        raise BadValue("n")
    found = value_in(variables, form, n)
    if not numbers_below(variables, found, DIGITS_400):
        raise TooLarge("numbers")
    return found


def start_any(numbers, form):
    """Return the numeric form that begins at the numbers, of any size."""
    pairs = [(key, value(coefficient, numbers)) for key, coefficient in pairs_of(form)]
    return make_form(0, [value(item, numbers) for item in form[0]], pairs)


def start_form(numbers, form):
    """Return the numeric form of the form that is started at the numbers."""
    if not isinstance(numbers, tuple) or not 1 <= len(numbers) <= 3 or not is_numbers(len(numbers), numbers):
        raise BadValue("numbers")
    if not all([is_below(number, DIGITS_60) for number in numbers]):
        raise BadValue("numbers")
    if not is_form_of(len(numbers), form):
        raise BadValue("form")
    return sized(0, start_any(numbers, form))
