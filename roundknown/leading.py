"""Leads and lines: what decides the rows of a guard after many rounds.

A line is a pair (strict, leads): from some round on, the sign of its first lead that is not 0 has to be 1, and
if it is strict, some lead must not be 0.
"""

from roundknown.integers import sign_of
from roundknown.linear import expression_of, joined_sum, negated, scaled
from roundknown.rationals import ONE, ZERO, common_bottom
from roundknown.systems import value_at


def leads_of(forms, expression, odd):
    """Return the leads of the expression, where forms are those of a map of linear polynomials."""
    k = len(forms)
    found = {(ONE, 0): expression[:1] + (ZERO,) * k}
    for factor, (first, terms) in zip(expression[1:], forms):
        for base, exponent, coefficient in terms:
            key = ((abs(base[0]), base[1]), exponent)
            piece = scaled(expression_of(k, coefficient), factor)
            if odd and base[0] < 0:
                piece = negated(piece)
            found[key] = joined_sum(found.get(key, (ZERO,) * (k + 1)), piece)
    bottom = common_bottom([size for size, exponent in found])
    keys = sorted(list(found), key=lambda key: (key[0][0] * (bottom // key[0][1]), key[1]), reverse=True)
    return [found[key] for key in keys if any([number != ZERO for number in found[key]])]


def lines_of_row(row):
    """Return the list of the lines of a row, each with its expression in place of its leads."""
    kind, expression = row
    if kind == "eq":
        return [(False, expression), (False, negated(expression))]
    return [(kind == "lt", negated(expression))]


def lines_of_list(forms, rows, odd):
    """Return the list of the lines of a list of a guard for even or odd numbers of rounds."""
    return [(strict, leads_of(forms, expression, odd)) for row in rows for strict, expression in lines_of_row(row)]


def lines_of_pairs(forms, guard):
    """Return the list of the lists of the lines of the pairs, in the order of the pairs."""
    even = [lines_of_list(forms, rows, False) for rows in guard]
    odd = [lines_of_list(forms, rows, True) for rows in guard]
    return [first + second for first in even for second in odd]


def sign_of_leads(leads, state):
    """Return the sign of the first lead that is not 0 in the state, or 0."""
    for lead in leads:
        found = sign_of(value_at(lead, state)[0])
        if found != 0:
            return found
    return 0


def fits(lines, state):
    """Return True if the state fits the pair with these lines."""
    return all([sign_of_leads(leads, state) >= (1 if strict else 0) for strict, leads in lines])


def stays_at_last(forms, guard, state):
    """Return True if the state is endless at last."""
    return any([fits(lines, state) for lines in lines_of_pairs(forms, guard)])
