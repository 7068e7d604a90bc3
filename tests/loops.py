"""Slow oracles for guards, implications and endings, with Python's fractions, and values to try them on."""

import functools
import itertools
from fractions import Fraction
from math import gcd

from helpers import r
from roundknown.futures import forms_of
from roundknown.layers import why_not
from test_systems import is_right

KINDS = ("eq", "le", "lt")


def row(kind, *numbers):
    """A row with integers or pairs as numbers."""
    return (kind, tuple([r(*number) if isinstance(number, tuple) else r(number) for number in numbers]))


def fractions(numbers):
    return [Fraction(*number) for number in numbers]


def dot(expression, numbers):
    """The value of an expression at fractions."""
    c = fractions(expression)
    return c[0] + sum((a * b for a, b in zip(c[1:], numbers)), Fraction(0))


def row_true(told, numbers):
    worth = dot(told[1], numbers)
    return {"eq": worth == 0, "le": worth <= 0, "lt": worth < 0}[told[0]]


def guard_true(guard, numbers):
    """Whether the guard holds at fractions."""
    return any(all(row_true(told, numbers) for told in rows) for rows in guard)


def minus_all(expression):
    return tuple([(-n, d) for n, d in expression])


def deny(told):
    kind, p = told
    return {"lt": [("le", minus_all(p))], "le": [("lt", minus_all(p))], "eq": [("lt", p), ("lt", minus_all(p))]}[kind]


def all_ways(guard):
    """The ways to deny a guard, in the order of point 100."""
    return list(itertools.product(*[[way for told in rows for way in deny(told)] for rows in guard]))


def is_fraction(x):
    """Whether x is a rational."""
    whole = isinstance(x, tuple) and len(x) == 2 and all(type(n) is int for n in x)
    return whole and x[1] >= 1 and gcd(*x) == 1


def are_fractions(count, x):
    return isinstance(x, tuple) and len(x) == count and all(is_fraction(number) for number in x)


def shows(v, rows, x):
    """Whether x is a tuple of multipliers for the system."""
    return are_fractions(len(rows), x) and is_right(v, rows, ("multipliers", x))


def right_implied(k, first, second, answer):
    """Whether an answer about an implication is right (point 101)."""
    if not isinstance(answer, tuple) or len(answer) != 2:
        return False
    word, content = answer
    if word == "state":
        good = are_fractions(k, content)
        return good and guard_true(first, fractions(content)) and not guard_true(second, fractions(content))
    ways = all_ways(second)
    if word != "always" or not isinstance(content, tuple) or len(content) != len(first):
        return False
    for rows, items in zip(first, content):
        if not isinstance(items, tuple) or len(items) != len(ways):
            return False
        if not all(shows(k, list(rows) + list(way), x) for way, x in zip(ways, items)):
            return False
    return True


def step_of(rules, numbers):
    """The fractions after one round of a map."""
    found = []
    for p in rules:
        total = Fraction(0)
        for coefficient, exponents in p:
            piece = Fraction(*coefficient)
            for number, exponent in zip(numbers, exponents):
                piece *= number ** exponent
            total += piece
        found.append(total)
    return found


def keyed_leads(rules, expression, odd):
    """The leads with their absolute values and powers: a list of ((size, power), fractions) in their order."""
    k = len(rules)
    found = {(Fraction(1), 0): [Fraction(*expression[0])] + [Fraction(0)] * k}
    for factor, (first, terms) in zip(expression[1:], forms_of(rules)):
        for base, power, coefficient in terms:
            sign = -1 if odd and base[0] < 0 else 1
            numbers = found.setdefault((abs(Fraction(*base)), power), [Fraction(0)] * (k + 1))
            for worth, exponents in coefficient:
                place = exponents.index(1) + 1 if any(exponents) else 0
                numbers[place] += sign * Fraction(*factor) * Fraction(*worth)
    return [(key, numbers) for key, numbers in sorted(found.items(), reverse=True) if any(numbers)]


def plain_leads(rules, expression, odd):
    """The leads as the program returns them."""
    return [tuple([r(n) for n in numbers]) for key, numbers in keyed_leads(rules, expression, odd)]


@functools.lru_cache(maxsize=1000)
def slow_lines(rules, guard, pair):
    """The lines of a pair: a list of (strict, leads), which is not to be changed."""
    found = []
    for index, odd in ((pair[0], False), (pair[1], True)):
        for kind, p in guard[index]:
            expressions = [p, minus_all(p)] if kind == "eq" else [minus_all(p)]
            found += [(kind == "lt", plain_leads(rules, expression, odd)) for expression in expressions]
    return found


def all_pairs(guard):
    return [(i, j) for i in range(len(guard)) for j in range(len(guard))]


def slow_cone(k, lines, raised):
    """The rows of the cone (point 108)."""
    zero = (0, 1)
    equal = [("eq", (zero,) + lead) for (strict, leads), many in zip(lines, raised) for lead in leads[:many]]
    fronts = [("le", (zero,) + minus_all(leads[many])) for (strict, leads), many in zip(lines, raised)
              if many < len(leads)]
    return equal + fronts + [("le", (zero, (-1, 1)) + (zero,) * k)]


def fits_slowly(lines, numbers):
    """Whether a state of fractions fits the pair with these lines."""
    for strict, leads in lines:
        worths = [worth for worth in [dot(lead, numbers) for lead in leads] if worth != 0]
        if (worths and worths[0] < 0) or (strict and not worths):
            return False
    return True


def endless_slowly(rules, guard, numbers):
    return any(fits_slowly(slow_lines(rules, guard, pair), numbers) for pair in all_pairs(guard))


def right_paper(k, lines, paper):
    """Whether a paper shows that nothing fits the pair with these lines (point 109)."""
    if not isinstance(paper, tuple) or len(paper) != 2 or not isinstance(paper[0], tuple):
        return False
    raised = [0] * len(lines)
    for item in paper[0]:
        if not isinstance(item, tuple) or len(item) != 2 or type(item[0]) is not int:
            return False
        index, multipliers = item
        if not 0 <= index < len(lines) or raised[index] == len(lines[index][1]):
            return False
        against = ("lt", ((0, 1),) + minus_all(lines[index][1][raised[index]]))
        if not shows(k + 1, slow_cone(k, lines, raised) + [against], multipliers):
            return False
        raised[index] += 1
    end = paper[1]
    if not isinstance(end, tuple) or len(end) != 2:
        return False
    if end[0] == "strict":
        good = type(end[1]) is int and 0 <= end[1] < len(lines)
        return good and lines[end[1]][0] and raised[end[1]] == len(lines[end[1]][1])
    against = ("lt", ((0, 1), (-1, 1)) + ((0, 1),) * k)
    return end[0] == "one" and shows(k + 1, slow_cone(k, lines, raised) + [against], end[1])


def right_ending(rules, guard, answer):
    """Whether an answer about a loop is right (point 111)."""
    if not isinstance(answer, tuple) or len(answer) != 2:
        return False
    if answer[0] == "never":
        return are_fractions(len(rules), answer[1]) and endless_slowly(rules, guard, fractions(answer[1]))
    pairs = all_pairs(guard)
    if answer[0] != "always" or not isinstance(answer[1], tuple) or len(answer[1]) != len(pairs):
        return False
    return all(right_paper(len(rules), slow_lines(rules, guard, pair), paper) for pair, paper in zip(pairs, answer[1]))


def near(x):
    """Values that differ from x in one place."""
    if isinstance(x, str):
        yield from [x + "s", "", x.upper(), "lt", None]
    elif isinstance(x, int):
        yield from [x + 1, x - 1, -x - 2, None, (x, 1), x == 1]
    else:
        yield from [list(x), x[:-1], x[1:], x + x[-1:], x[:1] + x, x[::-1], (), None, (x,), x + ((0, 1),)]
        for place, item in enumerate(x):
            for other in near(item):
                yield x[:place] + (other,) + x[place + 1:]


def linear_map(picker, k, size=3, bottom=1):
    """A told map of linear polynomials of k variables."""
    while True:
        rules = []
        for _ in range(k):
            rows = [(picker.rational(size, bottom) if picker.number(0, 3) else (0, 1),
                     tuple([1 if place == i else 0 for place in range(k)])) for i in range(k)]
            rows.append((picker.rational(size, bottom), (0,) * k))
            rules.append(tuple([item for item in rows if item[0] != (0, 1)]))
        if why_not(tuple(rules)) is None:
            return tuple(rules)


def some_guard(picker, k, size=3, kinds=KINDS, lists=3, rows=3):
    """A guard over k variables."""
    return tuple([
        tuple([(kinds[picker.number(0, len(kinds) - 1)], tuple([picker.rational(size, 2) for _ in range(k + 1)]))
               for _ in range(picker.number(1, rows))])
        for _ in range(picker.number(1, lists))
    ])


def bad_guards(k, good):
    """Values near a guard over k variables that are none."""
    told = good[0][0]
    rows = [list(told), told[:1], told + (0,), ("gt", told[1]), ("LT", told[1]), (None, told[1]), told[::-1],
            (told[0], list(told[1])), (told[0], told[1][:-1]), (told[0], told[1] + ((0, 1),)), (told[0], ()),
            (told[0],),
            (told[0], told[1][:-1] + ((1000, 1),)), (told[0], ((-1000, 1),) + told[1][1:]),
            (told[0], ((1, 1000),) + told[1][1:]), (told[0], ((2, 2),) + told[1][1:]),
            (told[0], ((True, 1),) + told[1][1:]), (told[0], ((0, 2),) + told[1][1:]), (told[0], (1,) + told[1][1:]),
            ("not", told), ("and", (told, told)), "lt", 0, None, ()]
    lists = [(), (told,) * 4, [told], told, None] + [(bad,) for bad in rows] + [(told, bad) for bad in rows]
    guards = [(), ((told,),) * 4, [(told,)], (told,), told, None, True, 0, "guard", list(good)]
    return guards + [(bad,) for bad in lists] + [((told,), bad) for bad in lists]
