"""Stretches (start, worth): what is told for all even or for all odd rounds.

A worth is a sign in tables and rungs, and True or False in sets of rounds.
"""

from roundknown.rationals import is_whole

# The greatest round that an argument may name.
LAST = 10 ** 40

# The greatest number of stretches of one kind in a set of rounds.
MANY = 1000


def is_round(x):
    """Return True if x is a round that an argument may name."""
    return is_whole(x) and 0 <= x <= LAST


def is_sign(x):
    """Return True if x is a sign."""
    return is_whole(x) and -1 <= x <= 1


def have_starts(x, begin):
    """Return True if x is a tuple of pairs with ascending starts of one kind, the first of them begin."""
    if not isinstance(x, tuple) or not x:
        return False
    if not all([isinstance(item, tuple) and len(item) == 2 and is_whole(item[0]) for item in x]):
        return False
    if x[0][0] != begin or not all([(item[0] - begin) % 2 == 0 for item in x]):
        return False
    return all([item[0] < other[0] for item, other in zip(x, x[1:])])


def have_changes(stretches):
    """Return True if neighbouring stretches have different worths."""
    return all([item[1] != other[1] for item, other in zip(stretches, stretches[1:])])


def is_rung(x, begin):
    """Return True if x tells a sign for the rounds of one kind from begin on."""
    return have_starts(x, begin) and all([is_sign(item[1]) for item in x]) and have_changes(x)


def is_table(x):
    """Return True if x is a table."""
    return isinstance(x, tuple) and len(x) == 2 and is_rung(x[0], 0) and is_rung(x[1], 1)


def is_half(x, kind):
    """Return True if x can stand in a set of rounds for the rounds of this kind."""
    if not have_starts(x, kind) or len(x) > MANY or x[-1][0] > LAST:
        return False
    return all([isinstance(item[1], bool) for item in x]) and have_changes(x)


def is_round_set(x):
    """Return True if x is a set of rounds within the limits of point 63."""
    return isinstance(x, tuple) and len(x) == 2 and is_half(x[0], 0) and is_half(x[1], 1)


def worth_at(stretches, n):
    """Return the worth of the last stretch whose start is not greater than n."""
    found = stretches[0][1]
    for start, worth in stretches:
        if start <= n:
            found = worth
    return found


def joined(runs):
    """Return the stretches of a list of runs, in which neighbours may have equal worths."""
    found = []
    for start, worth in runs:
        if not found or found[-1][1] != worth:
            found.append((start, worth))
    return tuple(found)


def spans_of(stretches):
    """Return the list of (start, end, worth), where end is the next start, or None behind the last one."""
    ends = [start for start, worth in stretches[1:]] + [None]
    return [(start, end, worth) for (start, worth), end in zip(stretches, ends)]


def combined(many, least):
    """Return the stretches of the rounds that at least this number of lists of stretches have."""
    changes = {}
    for stretches in many:
        before = False
        for start, worth in stretches:
            changes[start] = changes.get(start, 0) + int(worth) - int(before)
            before = worth
    count = 0
    runs = []
    for start in sorted(changes):
        count += changes[start]
        runs.append((start, count >= least))
    return joined(runs)


def flipped(stretches):
    """Return the stretches of the rounds that the given stretches do not have."""
    return tuple([(start, not worth) for start, worth in stretches])
