"""The parts of a map, their matrices, and whether the map is told."""

from roundknown.errors import BadValue, NotTold
from roundknown.maps import is_map
from roundknown.matrices import characteristic, eigenvalues
from roundknown.rationals import ZERO, is_whole


def parts(rules):
    """Return the list of the parts in their order, each a tuple of variables."""
    if not is_map(rules):
        raise BadValue("map")
    return find_parts(rules)


def used_by(p):
    """Return the list of the variables that the polynomial of a map uses."""
    found = []
    for coefficient, exponents in p:
        for i, exponent in enumerate(exponents):
            if exponent > 0 and i not in found:
                found.append(i)
    return found


def reached_by(rules, j):
    """Return the list of the variables that variable j reaches."""
    found = []
    waiting = used_by(rules[j])
    while waiting:
        i = waiting.pop()
        if i not in found:
            found.append(i)
            waiting.extend(used_by(rules[i]))
    return found


def find_parts(rules):
    """Return the parts of what surely is a map."""
    reached = [reached_by(rules, j) for j in range(len(rules))]
    waiting = []
    for j in range(len(rules)):
        part = tuple([i for i in range(len(rules)) if i == j or (i in reached[j] and j in reached[i])])
        if part not in waiting:
            waiting.append(part)
    ordered = []
    known = []
    while waiting:
        # The waiting parts stand in the order of their least variables, so the first that qualifies is next.
        part = next_part(reached, waiting, known)
        waiting.remove(part)
        ordered.append(part)
        known.extend(part)
    return ordered


def next_part(reached, waiting, known):
    """Return the first waiting part that uses only itself and known variables."""
    for part in waiting:
        if all([i in part or i in known for i in reached[part[0]]]):
            return part
    return None


def contradicts(part, term):
    """Return True if the term has a variable of the part and a degree other than 1."""
    exponents = term[1]
    return sum(exponents) != 1 and any([exponents[i] > 0 for i in part])


def layer_problem(rules):
    """Return the reason why the map is not layered, or None."""
    for part in find_parts(rules):
        for i in part:
            for term in rules[i]:
                if contradicts(part, term):
                    return ("product", i, term)
    return None


def part_matrix(rules, part):
    """Return the matrix of a part, a tuple of variables, of a layered map."""
    rows = []
    for i in part:
        alone = {}
        for coefficient, exponents in rules[i]:
            if sum(exponents) == 1:
                alone[exponents.index(1)] = coefficient
        rows.append(tuple([alone.get(j, ZERO) for j in part]))
    return tuple(rows)


def matrix_of(rules, part):
    """Return the matrix of the part with this index."""
    found = parts(rules)
    reason = layer_problem(rules)
    if reason is not None:
        raise NotTold(reason)
    if not is_whole(part) or not 0 <= part < len(found):
        raise BadValue("part")
    return part_matrix(rules, found[part])


def why_not(rules):
    """Return the reason why the map is not told, or None."""
    found = parts(rules)
    reason = layer_problem(rules)
    if reason is not None:
        return reason
    for part in found:
        matrix = part_matrix(rules, part)
        if not eigenvalues(matrix)[1]:
            return ("irrational", part, characteristic(matrix))
    return None


def check_told(rules):
    """Raise the error of a map that is not told."""
    reason = why_not(rules)
    if reason is not None:
        raise NotTold(reason)


def spectrum(rules):
    """Return the list of the eigenvalues of the parts with their multiplicities."""
    check_told(rules)
    return [eigenvalues(part_matrix(rules, part))[0] for part in find_parts(rules)]
