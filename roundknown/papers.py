"""Papers which show that no state fits a pair, and a judge for answers about endings."""

from roundknown.cones import above, cone_rows, front_of, unit
from roundknown.errors import BadValue
from roundknown.futures import forms_of
from roundknown.implications import check_guard
from roundknown.leading import lines_of_pairs, stays_at_last
from roundknown.linear import check_linear
from roundknown.maps import is_numbers
from roundknown.rationals import is_whole
from roundknown.systems import refutes


def is_index(x, count):
    """Return True if x is an index of a list of count items."""
    return is_whole(x) and 0 <= x < count


def cone_of(rules, guard, pair, raised):
    """Return the list of the rows of the cone of the pair after these numbers of leads were raised."""
    check_linear(rules)
    check_guard(len(rules), guard)
    if not isinstance(pair, tuple) or len(pair) != 2 or not all([is_index(i, len(guard)) for i in pair]):
        raise BadValue("pair")
    lines = lines_of_pairs(forms_of(rules), guard)[pair[0] * len(guard) + pair[1]]
    if not isinstance(raised, list) or len(raised) != len(lines):
        raise BadValue("raised")
    if not all([is_index(count, len(line[1]) + 1) for line, count in zip(lines, raised)]):
        raise BadValue("raised")
    return cone_rows(len(rules), lines, raised)


def accepts_ending(rules, guard, answer):
    """Return True if the answer to whether the loop ends from every state is right."""
    check_linear(rules)
    check_guard(len(rules), guard)
    if not isinstance(answer, tuple) or len(answer) != 2:
        return False
    word, content = answer
    forms = forms_of(rules)
    if word == "never":
        return is_numbers(len(rules), content) and stays_at_last(forms, guard, content)
    pairs = lines_of_pairs(forms, guard)
    if word != "always" or not isinstance(content, tuple) or len(content) != len(pairs):
        return False
    return all([is_paper(len(rules), lines, paper) for lines, paper in zip(pairs, content)])


def is_paper(k, lines, x):
    """Return True if x is a paper which shows that nothing fits the pair with these lines."""
    if not isinstance(x, tuple) or len(x) != 2 or not isinstance(x[0], tuple):
        return False
    raised = [0] * len(lines)
    for step in x[0]:
        if not is_step(k, lines, raised, step):
            return False
        raised[step[0]] += 1
    return is_end(k, lines, raised, x[1])


def is_step(k, lines, raised, x):
    """Return True if x is a line with a front, with multipliers which show that it can be raised."""
    if not isinstance(x, tuple) or len(x) != 2 or not is_index(x[0], len(lines)):
        return False
    front = front_of(lines[x[0]], raised[x[0]])
    if front is None:
        return False
    return refutes(k + 1, cone_rows(k, lines, raised) + [above("lt", front)], x[1])


def is_end(k, lines, raised, x):
    """Return True if x is an end of a paper after these numbers of leads were raised."""
    if not isinstance(x, tuple) or len(x) != 2:
        return False
    word, content = x
    if word == "strict":
        return is_index(content, len(lines)) and lines[content][0] and front_of(lines[content], raised[content]) is None
    return word == "one" and refutes(k + 1, cone_rows(k, lines, raised) + [above("lt", unit(k))], content)
