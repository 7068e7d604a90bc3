"""Guards that a map keeps, and measures that fall."""

from roundknown.errors import BadValue
from roundknown.implications import check_guard, find_answer, judge_answer
from roundknown.linear import after_round, check_linear, joined_sum, negated
from roundknown.rationals import ONE
from roundknown.systems import is_expression


def check_loop(rules, guard):
    """Raise the error of the first wrong argument."""
    check_linear(rules)
    check_guard(len(rules), guard)


def check_measured(rules, guard, measure):
    """Raise the error of the first wrong argument."""
    check_loop(rules, guard)
    if not is_expression(len(rules), measure):
        raise BadValue("measure")


def later_guard(rules, guard):
    """Return the guard after one round of the map."""
    return tuple([tuple([(kind, after_round(rules, expression)) for kind, expression in rows]) for rows in guard])


def falling_guard(rules, measure):
    """Return the guard which says that the measure is at least 0 and less by at least 1 after one round."""
    change = joined_sum(after_round(rules, measure), negated(measure))
    more = joined_sum(change[:1], (ONE,)) + change[1:]
    return ((("le", negated(measure)), ("le", more)),)


def kept(rules, guard):
    """Return a right answer to whether the map keeps the guard."""
    check_loop(rules, guard)
    return find_answer(len(rules), guard, later_guard(rules, guard))


def accepts_kept(rules, guard, answer):
    """Return True if the answer to whether the map keeps the guard is right."""
    check_loop(rules, guard)
    return judge_answer(len(rules), guard, later_guard(rules, guard), answer)


def falls(rules, guard, measure):
    """Return a right answer to whether the measure falls."""
    check_measured(rules, guard, measure)
    return find_answer(len(rules), guard, falling_guard(rules, measure))


def accepts_falls(rules, guard, measure, answer):
    """Return True if the answer to whether the measure falls is right."""
    check_measured(rules, guard, measure)
    return judge_answer(len(rules), guard, falling_guard(rules, measure), answer)
