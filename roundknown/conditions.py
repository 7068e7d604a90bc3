"""Conditions: what they are, whether they hold in a state, and their comparisons."""

from roundknown.maps import is_rule
from roundknown.polynomials import sign_of_value

# For each comparison, the signs of the value for which it holds.
SIGNS = {"eq": (0,), "lt": (-1,), "le": (-1, 0)}

MOST_COMPARISONS = 6
GREATEST_DEPTH = 4


def has_condition_form(x):
    """Return True if x has one of the forms of point 83; its polynomial and its members are not looked at."""
    if not isinstance(x, tuple) or len(x) != 2 or not isinstance(x[0], str):
        return False
    if x[0] in ("and", "or"):
        return isinstance(x[1], tuple) and 2 <= len(x[1]) <= 6
    return x[0] == "not" or x[0] in SIGNS


def members_of(condition):
    """Return the tuple of the conditions that stand directly in the condition."""
    word, content = condition
    if word in SIGNS:
        return ()
    return (content,) if word == "not" else content


def condition_problem(k, x):
    """Return the word of the first problem of point 84, or None if x is a condition of k variables."""
    waiting = [(1, x)]
    count = 0
    while waiting:
        depth, item = waiting.pop()
        if depth > GREATEST_DEPTH:
            return "nested"
        if not has_condition_form(item):
            return "condition"
        if item[0] in SIGNS:
            count += 1
            if count > MOST_COMPARISONS:
                return "comparisons"
            if not is_rule(k, item[1]):
                return "polynomial"
        # The first member has to be on top.
        waiting.extend([(depth + 1, member) for member in members_of(item)[::-1]])
    return None


def is_condition(k, value):
    """Return True if the value is a condition of k variables."""
    return condition_problem(k, value) is None


def holds(condition, state):
    """Return True if the condition holds in the state."""
    word, content = condition
    if word in SIGNS:
        return sign_of_value(content, state) in SIGNS[word]
    if word == "not":
        return not holds(content, state)
    if word == "and":
        return all([holds(member, state) for member in content])
    return any([holds(member, state) for member in content])


def comparisons(condition):
    """Return the list of the comparisons from left to right, each a pair of its word and its polynomial."""
    word, content = condition
    if word in SIGNS:
        return [(word, content)]
    return [comparison for member in members_of(condition) for comparison in comparisons(member)]
