"""Explained programs: the guards of conditions, and what is known about the loops of a program."""

from roundknown.conditions import SIGNS, comparisons, is_condition
from roundknown.endings import ends_always
from roundknown.errors import BadValue, NotTold
from roundknown.implications import MOST_LISTS, MOST_ROWS
from roundknown.layers import check_told, why_not
from roundknown.linear import expression_of, is_linear
from roundknown.polynomials import scale
from roundknown.rationals import is_whole


def opposite(condition):
    """Return the condition that holds exactly where the given one does not, made as point 118 says."""
    word, content = condition
    if word == "not":
        return content
    if word in ("and", "or"):
        return ("or" if word == "and" else "and", tuple([opposite(member) for member in content]))
    negative = scale(content, (-1, 1))
    if word == "eq":
        return ("or", (("lt", content), ("lt", negative)))
    return ("le" if word == "lt" else "lt", negative)


def lists_of(k, condition):
    """Return the list of the lists of rows of a condition with linear polynomials."""
    word, content = condition
    if word in SIGNS:
        return [((word, expression_of(k, content)),)]
    if word == "not":
        return lists_of(k, opposite(content))
    if word == "or":
        return [rows for member in content for rows in lists_of(k, member)]
    found = [()]
    for member in content:
        choices = lists_of(k, member)
        found = [rows + more for rows in found for more in choices]
    return found


def find_guard(k, condition):
    """Return the guard of what surely is a condition, or None."""
    if not all([is_linear(p) for word, p in comparisons(condition)]):
        return None
    lists = lists_of(k, condition)
    if len(lists) > MOST_LISTS or any([len(rows) > MOST_ROWS for rows in lists]):
        return None
    return tuple(lists)


def guard_of(k, condition):
    """Return the guard of a condition of k variables, or None if it has none."""
    if not is_condition(k, condition):
        raise BadValue("condition")
    return find_guard(k, condition)


def plain_guard(loop):
    """Return the guard of a loop with a told map if the loop is plain, otherwise None."""
    word, test, rules = loop
    if word != "while" or not all([is_linear(p) for p in rules]):
        return None
    return find_guard(len(rules), test)


def loop_reports(program):
    """Return the list of the tuples (word, reason, guard) of the loops."""
    reports = []
    for loop in program.loops():
        reason = why_not(loop[2])
        reports.append((loop[0], reason, plain_guard(loop) if reason is None else None))
    return reports


def ending_of(program, loop):
    """Return a right answer to whether the loop with this number ends from every state."""
    loops = program.loops()
    if not is_whole(loop) or not 0 <= loop < len(loops):
        raise BadValue("loop")
    rules = loops[loop][2]
    check_told(rules)
    guard = plain_guard(loops[loop])
    if guard is None:
        raise NotTold(("plain",))
    return ends_always(rules, guard)
