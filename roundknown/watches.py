"""Watches: the rounds of a set one by one, and the state after a far round."""

from roundknown.calculus import value_in
from roundknown.errors import BadValue, TooLarge
from roundknown.futures import solve_map
from roundknown.layers import check_told
from roundknown.maps import DIGITS_400, is_state
from roundknown.rationals import are_below, is_whole
from roundknown.rounds import check_rounds
from roundknown.stretches import is_round, spans_of

# Behind this round, only states with no base but 1 and -1 are told.
NEAR = 400

# The greatest number of rounds that are taken at once.
MOST_TAKEN = 1000


def check_round(n):
    """Raise the error of an argument that is not a round."""
    if not is_round(n):
        raise BadValue("n")


def first_round(rounds):
    """Return the least round of the set, or None."""
    check_rounds(rounds)
    return least_from(rounds, 0)


def next_round(rounds, n):
    """Return the least round of the set that is greater than n, or None."""
    check_rounds(rounds)
    check_round(n)
    return least_from(rounds, n + 1)


def least_from(rounds, begin):
    """Return the least round of the set from begin on, or None."""
    return min([n for stretches in rounds for n in taken_from(stretches, begin, 1)], default=None)


def taken_from(stretches, begin, count):
    """Return the list of the first rounds of one kind from begin on, at most count."""
    nearest = begin + (begin + stretches[0][0]) % 2
    found = []
    for start, end, worth in spans_of(stretches):
        if worth:
            low = max(start, nearest)
            high = low + 2 * (count - len(found))
            found.extend(list(range(low, high if end is None else min(high, end), 2)))
    return found


def take_rounds(rounds, n, count):
    """Return the list of the rounds of the set that are not less than n, at most count of them."""
    check_rounds(rounds)
    check_round(n)
    if not is_whole(count) or not 0 <= count <= MOST_TAKEN:
        raise BadValue("count")
    found = [m for stretches in rounds for m in taken_from(stretches, n, count)]
    return sorted(found)[:count]


def is_endless(rounds):
    """Return True if the set has infinitely many rounds."""
    return any([stretches[-1][1] for stretches in rounds])


def true_spans(rounds):
    """Return the list of the pairs of start and end of the stretches of rounds in a set."""
    return [(start, end) for stretches in rounds for start, end, worth in spans_of(stretches) if worth]


def last_round(rounds):
    """Return the greatest round of the set, or None."""
    check_rounds(rounds)
    return None if is_endless(rounds) else greatest_of(rounds)


def greatest_of(rounds):
    """Return the greatest round of a set that has finitely many rounds, or None if it has none."""
    return max([end - 2 for start, end in true_spans(rounds)], default=None)


def count_rounds(rounds):
    """Return the number of the rounds of the set, or None if there are infinitely many."""
    check_rounds(rounds)
    if is_endless(rounds):
        return None
    return sum([(end - start) // 2 for start, end in true_spans(rounds)])


def state_at(rules, state, n):
    """Return the state after n rounds of the map, without making them."""
    if not is_state(rules, state):
        raise BadValue("state")
    check_round(n)
    check_told(rules)
    return state_after(solve_map(0, rules, list(state)), n)


def state_after(futures, n):
    """Return the state after n rounds, where futures are the numeric forms of the variables."""
    bases = [term[0] for form in futures for term in form[1]]
    if n > NEAR and not all([base in ((1, 1), (-1, 1)) for base in bases]):
        raise TooLarge("numbers")
    numbers = tuple([value_in(0, form, n) for form in futures])
    if not are_below(numbers, DIGITS_400):
        raise TooLarge("numbers")
    return numbers
