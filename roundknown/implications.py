"""Guards, and whether one guard implies another one."""

from roundknown.errors import BadValue, TooLarge
from roundknown.linear import negated
from roundknown.maps import is_numbers
from roundknown.rationals import is_whole
from roundknown.simplex import decide
from roundknown.systems import holds_at, is_condition_row, refutes

MOST_LISTS = 3
MOST_ROWS = 3
MOST_WAYS = 64


def is_list_of_rows(k, x):
    """Return True if x can be a list of a guard over k variables."""
    if not isinstance(x, tuple) or not 1 <= len(x) <= MOST_ROWS:
        return False
    return all([is_condition_row(k, row) for row in x])


def is_guard(k, x):
    """Return True if x is a guard over k variables with the numbers of point 102."""
    if not isinstance(x, tuple) or not 1 <= len(x) <= MOST_LISTS:
        return False
    return all([is_list_of_rows(k, rows) for rows in x])


def check_guard(k, guard):
    """Raise the error of an argument that is not a guard."""
    if not is_guard(k, guard):
        raise BadValue("guard")


def check_count(k):
    """Raise the error of a wrong number of variables of a guard."""
    if not is_whole(k) or not 1 <= k <= 3:
        raise BadValue("k")


def check_two(k, first, second):
    """Raise the error of the first wrong argument."""
    check_count(k)
    if not is_guard(k, first):
        raise BadValue("first")
    if not is_guard(k, second):
        raise BadValue("second")


def guard_holds(guard, state):
    """Return True if the guard holds in the state."""
    return any([all([holds_at(row, state) for row in rows]) for rows in guard])


def denials(row):
    """Return the list of the rows that deny the row."""
    kind, expression = row
    if kind == "eq":
        return [("lt", expression), ("lt", negated(expression))]
    return [("le" if kind == "lt" else "lt", negated(expression))]


def find_ways(guard):
    """Return the list of the ways to deny the guard."""
    found = [()]
    for rows in guard:
        choices = [denial for row in rows for denial in denials(row)]
        found = [way + (choice,) for way in found for choice in choices]
    if len(found) > MOST_WAYS:
        raise TooLarge("ways")
    return found


def ways(k, guard):
    """Return the list of the ways to deny the guard over k variables."""
    check_count(k)
    check_guard(k, guard)
    return find_ways(guard)


def implied(k, first, second):
    """Return a right answer to whether the first guard implies the second one."""
    check_two(k, first, second)
    return find_answer(k, first, second)


def find_answer(k, first, second):
    """Return a right answer for guards with numbers of any size."""
    denied = find_ways(second)
    papers = []
    for rows in first:
        items = []
        for way in denied:
            word, numbers = decide(k, rows + way)
            if word == "solution":
                return ("state", numbers)
            items.append(numbers)
        papers.append(tuple(items))
    return ("always", tuple(papers))


def accepts_implied(k, first, second, answer):
    """Return True if the answer to whether the first guard implies the second one is right."""
    check_two(k, first, second)
    return judge_answer(k, first, second, answer)


def judge_answer(k, first, second, answer):
    """Return True if the answer is right, for guards with numbers of any size."""
    denied = find_ways(second)
    if not isinstance(answer, tuple) or len(answer) != 2:
        return False
    word, content = answer
    if word == "state":
        return is_numbers(k, content) and guard_holds(first, content) and not guard_holds(second, content)
    return word == "always" and are_papers(k, first, denied, content)


def are_papers(k, first, denied, x):
    """Return True if x has multipliers for each list of the guard and each way."""
    if not isinstance(x, tuple) or len(x) != len(first):
        return False
    for rows, items in zip(first, x):
        if not isinstance(items, tuple) or len(items) != len(denied):
            return False
        if not all([refutes(k, rows + way, numbers) for way, numbers in zip(denied, items)]):
            return False
    return True
