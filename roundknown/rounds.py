"""Sets of rounds, and the rounds in which a condition holds."""

from roundknown.calculus import put_forms
from roundknown.conditions import SIGNS, is_condition
from roundknown.errors import BadValue, TooLarge
from roundknown.forms import sized
from roundknown.futures import solve_map
from roundknown.layers import check_told
from roundknown.maps import is_state
from roundknown.stretches import MANY, combined, flipped, is_round, is_round_set, is_sign, is_table, joined, worth_at
from roundknown.tables import is_small, table_of


def check_rounds(rounds):
    """Raise the error of an argument that is not a set of rounds."""
    if not is_round_set(rounds):
        raise BadValue("rounds")


def check_pair(first, second):
    """Raise the error of the first of two arguments that is not a set of rounds."""
    if not is_round_set(first):
        raise BadValue("first")
    if not is_round_set(second):
        raise BadValue("second")


def limited(rounds):
    """Return the set of rounds, or raise the error if it has too many stretches."""
    if max([len(stretches) for stretches in rounds]) > MANY:
        raise TooLarge("rounds")
    return rounds


def rounds_of(rules, state, condition):
    """Return the rounds of the condition."""
    if not is_state(rules, state):
        raise BadValue("state")
    if not is_condition(len(rules), condition):
        raise BadValue("condition")
    check_told(rules)
    return find_rounds(solve_map(0, rules, list(state)), condition)


def find_rounds(futures, condition):
    """Return the rounds of the condition, where futures are the numeric forms of the variables."""
    word, content = condition
    if word in SIGNS:
        return rounds_of_comparison(futures, word, content)
    if word == "not":
        return opposite_of(find_rounds(futures, content))
    members = [find_rounds(futures, member) for member in content]
    return common_rounds(members, len(members) if word == "and" else 1)


def rounds_of_comparison(futures, word, p):
    """Return the rounds of a comparison of the polynomial p."""
    form = sized(0, put_forms(0, p, futures))
    if not is_small(form):
        raise TooLarge("small")
    return pick_rounds(table_of(form), SIGNS[word])


def pick_rounds(table, signs):
    """Return the rounds for which the table tells one of the signs."""
    return tuple([joined([(start, sign in signs) for start, sign in stretches]) for stretches in table])


def common_rounds(many, least):
    """Return the rounds that at least this number of sets of rounds have."""
    return tuple([combined([rounds[kind] for rounds in many], least) for kind in (0, 1)])


def opposite_of(rounds):
    """Return the rounds that are not in the set."""
    return tuple([flipped(stretches) for stretches in rounds])


def rounds_of_table(table, signs):
    """Return the set of the rounds for which the table tells one of the signs."""
    if not is_table(table):
        raise BadValue("table")
    if not isinstance(signs, list) or not all([is_sign(sign) for sign in signs]):
        raise BadValue("signs")
    return limited(pick_rounds(table, signs))


def union(first, second):
    """Return the set of the rounds that are in at least one of the sets."""
    check_pair(first, second)
    return limited(common_rounds([first, second], 1))


def meet(first, second):
    """Return the set of the rounds that are in both sets."""
    check_pair(first, second)
    return limited(common_rounds([first, second], 2))


def complement(rounds):
    """Return the set of the rounds that are not in the set."""
    check_rounds(rounds)
    return opposite_of(rounds)


def is_subset(first, second):
    """Return True if every round of the first set is in the second one."""
    check_pair(first, second)
    rest = common_rounds([first, opposite_of(second)], 2)
    return not any([worth for stretches in rest for start, worth in stretches])


def is_in(rounds, n):
    """Return True if the round n is in the set."""
    check_rounds(rounds)
    if not is_round(n):
        raise BadValue("n")
    return worth_at(rounds[n % 2], n)
