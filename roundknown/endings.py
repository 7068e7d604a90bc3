"""Whether a loop with a linear map ends from every state, and from which round on a guard holds."""

from roundknown.cones import decide_pair
from roundknown.errors import BadValue
from roundknown.futures import forms_of, solve_map
from roundknown.implications import check_guard
from roundknown.leading import leads_of, lines_of_pairs, stays_at_last
from roundknown.linear import check_linear, polynomial_of
from roundknown.maps import is_state
from roundknown.rounds import common_rounds, opposite_of, rounds_of_comparison
from roundknown.systems import is_expression
from roundknown.watches import greatest_of


def check_all(rules, guard, state):
    """Raise the error of the first wrong argument."""
    check_linear(rules)
    check_guard(len(rules), guard)
    if not is_state(rules, state):
        raise BadValue("state")


def leads(rules, expression, odd):
    """Return the list of the leads of the expression for odd or even numbers of rounds."""
    check_linear(rules)
    if not is_expression(len(rules), expression):
        raise BadValue("expression")
    return leads_of(forms_of(rules), expression, odd is True)


def endless_at_last(rules, guard, state):
    """Return True if the state is endless at last."""
    check_all(rules, guard, state)
    return stays_at_last(forms_of(rules), guard, state)


def ends_always(rules, guard):
    """Return a right answer to whether the loop ends from every state."""
    check_linear(rules)
    check_guard(len(rules), guard)
    papers = []
    for lines in lines_of_pairs(forms_of(rules), guard):
        word, found = decide_pair(len(rules), lines)
        if word == "state":
            return ("never", found)
        papers.append(found)
    return ("always", tuple(papers))


def rounds_of_guard(futures, guard):
    """Return the rounds of the guard, where futures are the numeric forms of the variables."""
    k = len(futures)
    lists = []
    for rows in guard:
        members = [rounds_of_comparison(futures, kind, polynomial_of(k, expression)) for kind, expression in rows]
        lists.append(common_rounds(members, len(members)))
    return common_rounds(lists, 1)


def round_of(rules, guard, state):
    """Return the least round from which on the guard holds for ever, or None."""
    check_all(rules, guard, state)
    if not stays_at_last(forms_of(rules), guard, state):
        return None
    rounds = rounds_of_guard(solve_map(0, rules, list(state)), guard)
    last = greatest_of(opposite_of(rounds))
    return 0 if last is None else last + 1
