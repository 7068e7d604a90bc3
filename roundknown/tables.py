"""Tables: the sign of a small form in every round."""

from roundknown.errors import BadValue
from roundknown.forms import is_form_of
from roundknown.integers import sign_of, sign_runs, value_of
from roundknown.rationals import common_bottom, power
from roundknown.stretches import is_round, joined

# From this round on, point 54 tells the sign by the groups alone.
FAR = 256


def weight_of(form):
    """Return the weight of a form."""
    greatest = {}
    for base, exponent, coefficient in form[1]:
        size = (abs(base[0]), base[1])
        greatest[size] = max(greatest.get(size, 0), exponent)
    return sum([exponent + 1 for exponent in list(greatest.values())])


def are_within(numbers, bound):
    """Return True if the least common denominator times each absolute value is at most bound."""
    bottom = common_bottom(numbers)
    return all([abs(n) * (bottom // d) <= bound for n, d in numbers])


def is_small(form):
    """Return True if the argument is a small form."""
    if not is_form_of(0, form):
        return False
    terms = form[1]
    if not are_within([term[0] for term in terms], 8) or not are_within([term[2] for term in terms], 1000000):
        return False
    return all([term[1] <= 3 for term in terms]) and weight_of(form) <= 6


def groups_of(form, odd):
    """Return the groups of a small form in one kind of rounds, descending, as pairs.

    A pair has an integer from 1 to 8, which is D times the absolute value of the bases, and the group
    times L as a list of integers, with D and L as in point 51.
    """
    bottom = common_bottom([term[0] for term in form[1]])
    many = common_bottom([term[2] for term in form[1]])
    found = {}
    for base, exponent, coefficient in form[1]:
        size = abs(base[0]) * (bottom // base[1])
        amount = coefficient[0] * (many // coefficient[1])
        group = found.setdefault(size, [0, 0, 0, 0])
        group[exponent] += -amount if odd and base[0] < 0 else amount
    return [(size, found[size]) for size in sorted(found, reverse=True)]


def sign_in(form, groups, n):
    """Return the sign in round n, where groups are those of the kind of the round."""
    if n < len(form[0]):
        return sign_of(form[0][n][0])
    if n < FAR:
        return sign_of(sum([value_of(group, n) * power((size, 1), n)[0] for size, group in groups]))
    for size, group in groups:
        found = value_of(group, n)
        if found != 0:
            return sign_of(found)
    return 0


def sign_at(form, n):
    """Return the sign of the value of the form in round n."""
    if not is_small(form):
        raise BadValue("form")
    if not is_round(n):
        raise BadValue("n")
    return sign_in(form, groups_of(form, n % 2 == 1), n)


def far_rounds(groups, kind):
    """Return rounds of one kind from round 256 on, among them all in which the sign changes."""
    leading = [group for size, group in groups if any(group)]
    if not leading:
        return []
    # No zero of the leading group is as great as the sum of its absolute values plus 1.
    high = FAR + sum([abs(coefficient) for coefficient in leading[0]])
    runs = sign_runs(leading[0], FAR, high)
    ends = [start for start, sign in runs[1:]] + [high + 2]
    rounds = []
    for (start, sign), end in zip(runs, ends):
        begin = start + (start + kind) % 2
        # Where the leading group is 0, the next groups decide, in each round for itself.
        stop = end if sign == 0 else min(end, begin + 1)
        rounds.extend(list(range(begin, stop, 2)))
    return rounds


def stretches_of(form, kind):
    """Return the stretches of one kind of rounds: 0 for even rounds, 1 for odd ones."""
    groups = groups_of(form, kind == 1)
    rounds = list(range(kind, FAR, 2)) + far_rounds(groups, kind)
    return joined([(n, sign_in(form, groups, n)) for n in rounds])


def table_of(form):
    """Return the table of the form."""
    if not is_small(form):
        raise BadValue("form")
    return (stretches_of(form, 0), stretches_of(form, 1))


def stretch_bound(form):
    """Return the greatest possible numbers of stretches for even and for odd rounds."""
    if not is_small(form):
        raise BadValue("form")
    count = len(form[0])
    more = max(2 * weight_of(form) - 1, 1)
    return ((count + 1) // 2 + more, count // 2 + more)
