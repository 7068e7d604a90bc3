"""The level functions of point 56, their signs and their rungs."""

from roundknown.integers import sign_of, value_of
from roundknown.rationals import power
from roundknown.stretches import worth_at
from roundknown.tables import groups_of


class Level:
    """A level function times powers of D and L (point 51), which do not change its sign.

    Its groups are pairs of an integer from 1 to 8, descending, and a polynomial with integer coefficients
    that is not 0. In a round n of its kind it is the sum of the polynomials at n times the integers to the n.
    """

    def __init__(self, groups):
        self.groups = groups
        self.far = far_of(groups)

    def sign(self, n):
        """Return the sign in round n."""
        if n < self.far:
            return sign_of(sum([value_of(group, n) * power((size, 1), n)[0] for size, group in self.groups]))
        for size, group in self.groups:
            found = value_of(group, n)
            if found != 0:
                return sign_of(found)
        return 0

    def last_sign(self):
        """Return the sign in all rounds from some round on."""
        if not self.groups:
            return 0
        leading = [coefficient for coefficient in self.groups[0][1] if coefficient != 0]
        return sign_of(leading[-1])

    def next_level(self):
        """Return the next level function."""
        top = self.groups[0][0]
        groups = [(size, next_group(size, top, group)) for size, group in self.groups]
        return Level([(size, group) for size, group in groups if any(group)])


def far_of(groups):
    """Return a round from which on the first group that is not 0 decides the sign.

    As in point 54, the rest is at most total times n to the power 3 times the next integer to the n. The
    quotient of two of the integers is at least 8/7, and from 32 on its powers grow faster than those of n.
    """
    total = sum([abs(coefficient) for size, group in groups for coefficient in group])
    far = 32
    while True:
        top, bottom = power((8, 7), far)
        if top > total * far * far * far * bottom:
            return far
        far = 2 * far


def next_group(size, top, group):
    """Return size squared times the group at n + 2, less top squared times the group at n."""
    moved = [0, 0, 0, 0]
    # The powers of n + 2 are 1, n + 2, n n + 4 n + 4, ..: binomial coefficients times powers of 2.
    for grade, row in enumerate([(1,), (2, 1), (4, 4, 1), (8, 12, 6, 1)]):
        for low, many in enumerate(row):
            moved[low] += many * group[grade]
    return [size * size * after - top * top * now for after, now in zip(moved, group)]


def levels_of(form, odd):
    """Return the list of all level functions of a small form for one kind of rounds; the last one is 0."""
    level = Level([(size, group) for size, group in groups_of(form, odd) if any(group)])
    found = [level]
    while level.groups:
        level = level.next_level()
        found.append(level)
    return found


def first_round_from(form, kind):
    """Return the first round of the kind that is not less than the length of the first values."""
    count = len(form[0])
    return count + (count + kind) % 2


def change_between(level, low, high):
    """Return the least round of the kind above low with another sign than low, up to high, where it has changed.

    Between low and high the level function only rises or only falls when it is divided by powers (point 58).
    """
    sign = level.sign(low)
    near, away = 0, (high - low) // 2
    while away - near > 1:
        middle = (near + away) // 2
        if level.sign(low + 2 * middle) == sign:
            near = middle
        else:
            away = middle
    return low + 2 * away


def settled_round(level, low):
    """Return a round from low on that has the last sign, if the last sign stays where it once is."""
    last = level.last_sign()
    n = low
    wide = 2
    while level.sign(n) != last:
        n += wide
        wide = 2 * wide
    return n


def rung_of(level, above):
    """Return the rung of a level function, where above is the rung of the next one."""
    low = above[0][0]
    runs = [(low, level.sign(low))]
    for high in [start for start, sign in above[1:]] + [None]:
        end = settled_round(level, low) if high is None else high
        while runs[-1][1] != level.sign(end):
            low = change_between(level, low, end)
            runs.append((low, level.sign(low)))
        low = end
    return tuple(runs)


def is_true_rung(level, claim, above):
    """Return True if the claimed rung is the rung of the level function, where above is that of the next one.

    This looks only into the rounds of point 58.
    """
    for place, (start, sign) in enumerate(claim):
        if level.sign(start) != sign:
            return False
        if place > 0 and level.sign(start - 2) != claim[place - 1][1]:
            return False
    if claim[-1][1] != level.last_sign():
        return False
    return all([level.sign(start) == worth_at(claim, start) for start, sign in above])

