"""Forms of any size: tuples (first, terms) as point 35 says, without the limits of point 37.

On the way, terms are pairs ((base, exponent), coefficient) in any order, collected in dicts.
"""

from math import comb

from roundknown.coefficients import constant_of, multiply_coefficients, scale_coefficient, sum_coefficients
from roundknown.rationals import ONE, ZERO, common_bottom, minus, over, plus, power, times


def collect(v, pairs):
    """Return the dict of the sums of the coefficients of a list of pairs, without zeros."""
    found = {}
    for key, coefficient in pairs:
        found.setdefault(key, []).append(coefficient)
    zero = constant_of(v, ZERO)
    sums = {key: sum_coefficients(v, items) for key, items in found.items()}
    return {key: coefficient for key, coefficient in sums.items() if coefficient != zero}


def pairs_of(form):
    """Return the terms of a form as pairs."""
    return [((base, exponent), coefficient) for base, exponent, coefficient in form[1]]


def make_form(v, values, pairs):
    """Return the form with these first values and these pairs."""
    table = collect(v, pairs)
    bottom = common_bottom([key[0] for key in table])
    keys = sorted(list(table), key=lambda key: (key[0][0] * (bottom // key[0][1]), key[1]))
    terms = tuple([(base, exponent, table[(base, exponent)]) for base, exponent in keys])
    end = len(values)
    while end > 0 and values[end - 1] == sum_at(v, terms, end - 1):
        end -= 1
    return (tuple(values[:end]), terms)


def sum_at(v, terms, n):
    """Return the sum of the terms at n, whatever the first values are."""
    return sum_coefficients(v, [
        scale_coefficient(v, coefficient, times(power((n, 1), exponent), power(base, n)))
        for base, exponent, coefficient in terms
    ])


def value_in(v, form, n):
    """Return the value of the form in round n."""
    return form[0][n] if n < len(form[0]) else sum_at(v, form[1], n)


def constant_form(v, coefficient):
    """Return the form that is the coefficient in every round."""
    return make_form(v, [], [((ONE, 0), coefficient)])


def add_any(v, first, second):
    """Return the form of the sum."""
    count = max(len(first[0]), len(second[0]))
    values = [sum_coefficients(v, [value_in(v, first, n), value_in(v, second, n)]) for n in range(count)]
    return make_form(v, values, pairs_of(first) + pairs_of(second))


def multiply_any(v, first, second):
    """Return the form of the product."""
    count = max(len(first[0]), len(second[0]))
    values = [multiply_coefficients(v, value_in(v, first, n), value_in(v, second, n)) for n in range(count)]
    pairs = []
    for base, exponent, coefficient in first[1]:
        for other, more, factor in second[1]:
            key = (times(base, other), exponent + more)
            pairs.append((key, multiply_coefficients(v, coefficient, factor)))
    return make_form(v, values, pairs)


def scale_any(v, form, coefficient):
    """Return the form times the coefficient."""
    values = [multiply_coefficients(v, item, coefficient) for item in form[0]]
    pairs = [(key, multiply_coefficients(v, item, coefficient)) for key, item in pairs_of(form)]
    return make_form(v, values, pairs)


def shift_any(v, form, count):
    """Return the form shifted by count rounds."""
    pairs = []
    for base, exponent, coefficient in form[1]:
        grown = power(base, count)
        for low in range(exponent + 1):
            many = comb(exponent, low) * power((count, 1), exponent - low)[0]
            pairs.append(((base, low), scale_coefficient(v, coefficient, times(grown, (many, 1)))))
    return make_form(v, form[0][count:], pairs)


def answer_to(factor, base, exponent):
    """Return rationals q0, q1, .. for which q(n) = q0 + q1 n + .. answers one term.

    q(n + 1) times base, less q(n) times factor, is n to the exponent.
    """
    if base == factor:
        # The highest powers of both sides cancel, so q has one degree more, and q0 is free.
        return resonant_answer(base, exponent)
    found = [ZERO] * (exponent + 1)
    for low in range(exponent, -1, -1):
        wanted = ONE if low == exponent else ZERO
        higher = higher_part(found, low, low + 1)
        found[low] = over(minus(wanted, times(base, higher)), minus(base, factor))
    return found


def resonant_answer(base, exponent):
    """Return the rationals of answer_to if the factor is the base."""
    found = [ZERO] * (exponent + 2)
    for low in range(exponent, -1, -1):
        wanted = ONE if low == exponent else ZERO
        higher = higher_part(found, low, low + 2)
        found[low + 1] = over(minus(wanted, times(base, higher)), times(base, (low + 1, 1)))
    return found


def higher_part(found, low, begin):
    """Return what the powers from begin on give to the power low when n + 1 takes the place of n."""
    total = ZERO
    for high in range(begin, len(found)):
        total = plus(total, times((comb(high, low), 1), found[high]))
    return total


def next_any(v, factor, start, form):
    """Return the form that begins with start, and then is factor times itself plus the given form."""
    pairs = []
    for base, exponent, coefficient in form[1]:
        for grade, number in enumerate(answer_to(factor, base, exponent)):
            pairs.append(((base, grade), scale_coefficient(v, coefficient, number)))
    values = [start]
    for item in form[0]:
        values.append(sum_coefficients(v, [scale_coefficient(v, values[-1], factor), item]))
    if factor == ZERO:
        return make_form(v, values, pairs)
    # From round count on, the terms answer all but a multiple of factor to the n.
    count = len(form[0])
    so_far = sum_at(v, make_form(v, [], pairs)[1], count)
    gap = sum_coefficients(v, [values[count], scale_coefficient(v, so_far, (-1, 1))])
    pairs.append(((factor, 0), scale_coefficient(v, gap, over(ONE, power(factor, count)))))
    return make_form(v, values[:count], pairs)


def put_forms(v, p, forms):
    """Return the form of the polynomial p with the forms in place of its variables.

    The forms of variables that p does not use are not looked at.
    """
    total = ((), ())
    for number, exponents in p:
        piece = constant_form(v, constant_of(v, number))
        for form, exponent in zip(forms, exponents):
            for _ in range(exponent):
                piece = multiply_any(v, piece, form)
        total = add_any(v, total, piece)
    return total
