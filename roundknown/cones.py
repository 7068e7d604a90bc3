"""Cones: the systems over k + 1 unknowns that tell whether some state fits a pair.

The unknowns are y0, .., yk, and a lead (c0, .., ck) is read as c0 y0 + .. + ck yk.
"""

from roundknown.linear import joined_sum, negated
from roundknown.rationals import ZERO, over
from roundknown.simplex import decide
from roundknown.systems import holds_at


def above(kind, lead):
    """Return the row of this kind which says that the lead is at least 0 ("le") or greater than 0 ("lt")."""
    return (kind, (ZERO,) + negated(lead))


def unit(k):
    """Return the lead that is y0 alone."""
    return ((1, 1),) + (ZERO,) * k


def front_of(line, count):
    """Return the front of a line of which count leads are raised, or None."""
    leads = line[1]
    return leads[count] if count < len(leads) else None


def cone_rows(k, lines, raised):
    """Return the list of the rows of the cone, where raised has the number of raised leads of each line."""
    rows = []
    for line, count in zip(lines, raised):
        rows.extend([("eq", (ZERO,) + lead) for lead in line[1][:count]])
    fronts = [front_of(line, count) for line, count in zip(lines, raised)]
    rows.extend([above("le", front) for front in fronts if front is not None])
    rows.append(above("le", unit(k)))
    return rows


def bare_line(lines, raised):
    """Return the index of the first strict line without a front, or None."""
    for index, (line, count) in enumerate(zip(lines, raised)):
        if line[0] and front_of(line, count) is None:
            return index
    return None


def next_step(k, lines, raised, total):
    """Return a line that can be raised with its multipliers, or None, and a solution of the cone.

    The given total is a solution of the cone. If no line can be raised, all fronts are greater than 0 at the
    returned one, and y0 is there not less than in the total.
    """
    rows = cone_rows(k, lines, raised)
    for index, (line, count) in enumerate(zip(lines, raised)):
        front = front_of(line, count)
        if front is None or holds_at(above("lt", front), total):
            continue
        word, numbers = decide(k + 1, rows + [above("lt", front)])
        if word == "multipliers":
            return (index, numbers), total
        total = joined_sum(total, numbers)
    return None, total


def decide_pair(k, lines):
    """Return ("paper", paper) or ("state", numbers) with a state that fits the pair with these lines."""
    raised = [0] * len(lines)
    steps = ()
    while True:
        index = bare_line(lines, raised)
        if index is not None:
            return ("paper", (steps, ("strict", index)))
        word, numbers = decide(k + 1, cone_rows(k, lines, raised) + [above("lt", unit(k))])
        if word == "multipliers":
            return ("paper", (steps, ("one", numbers)))
        step, total = next_step(k, lines, raised, numbers)
        if step is None:
            return ("state", tuple([over(number, total[0]) for number in total[1:]]))
        steps = steps + (step,)
        raised[step[0]] += 1
