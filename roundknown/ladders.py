"""Ladders: from the sign of 0 to the table of a form, and a judge for them."""

from roundknown.errors import BadValue
from roundknown.integers import sign_of
from roundknown.levels import first_round_from, is_true_rung, levels_of, rung_of
from roundknown.stretches import is_rung, is_table, worth_at
from roundknown.tables import is_small

KINDS = ("even", "odd")


def check_small(form):
    """Raise the error of a form that is not small."""
    if not is_small(form):
        raise BadValue("form")


def ladder_of(form):
    """Return the ladder of the form, a list of lines."""
    check_small(form)
    lines = []
    for kind, word in enumerate(KINDS):
        lines.extend([(word, rung) for rung in rungs_of(form, kind)])
    return lines


def rungs_of(form, kind):
    """Return the list of the rungs of the level functions of a kind that have a line."""
    levels = levels_of(form, kind == 1)
    above = ((first_round_from(form, kind), 0),)
    found = []
    # The first level function is that of the table, and the last one is 0.
    for level in levels[-2:0:-1]:
        above = rung_of(level, above)
        found.append(above)
    return found[::-1]


def judge_ladder(form, table, lines):
    """Return True if the table is the table of the form and the lines are its ladder."""
    check_small(form)
    if not is_table(table) or not isinstance(lines, list):
        return False
    levels = [levels_of(form, False), levels_of(form, True)]
    words = [word for word, found in zip(KINDS, levels) for _ in found[1:-1]]
    if len(lines) != len(words):
        return False
    rungs = {word: [] for word in KINDS}
    for line, word in zip(lines, words):
        if not isinstance(line, tuple) or len(line) != 2 or not isinstance(line[0], str) or line[0] != word:
            return False
        rungs[word].append(line[1])
    return all([accepts_kind(form, kind, levels[kind], table[kind], rungs[KINDS[kind]]) for kind in (0, 1)])


def accepts_kind(form, kind, levels, stretches, rungs):
    """Return True if the stretches of a table and the claimed rungs of one kind are true."""
    begin = first_round_from(form, kind)
    for n in range(kind, begin, 2):
        if worth_at(stretches, n) != sign_of(form[0][n][0]):
            return False
    if not all([is_rung(rung, begin) for rung in rungs]):
        return False
    # From begin on, the table tells the rung of the first level function.
    claims = [rest_from(stretches, begin)] + rungs
    above = ((begin, 0),)
    for level, claim in reversed(list(zip(levels, claims))):
        if not is_true_rung(level, claim, above):
            return False
        above = claim
    return True


def rest_from(stretches, begin):
    """Return the stretches of one kind from the round begin of this kind on."""
    rest = [(start, worth) for start, worth in stretches if start > begin]
    return ((begin, worth_at(stretches, begin)), *rest)
