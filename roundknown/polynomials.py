"""Polynomials of k variables: tuples of terms (coefficient, exponents) in the order of point 12."""

from roundknown.integers import sign_of
from roundknown.packed import add_packed, multiply_packed, pack, unpack
from roundknown.rationals import ONE, ZERO, is_rational, is_whole, power, times, total_of

# With a greater common denominator, fractions are faster than integers over this denominator.
LONG = 10 ** 60


def polynomial(k, rows):
    """Return the polynomial of k variables that is the sum of the terms in rows."""
    found = {}
    for coefficient, exponents in rows:
        found.setdefault(exponents, []).append(coefficient)
    totals = {exponents: total_of(items) for exponents, items in found.items()}
    kept = [exponents for exponents in totals if totals[exponents] != ZERO]
    kept = sorted(kept, key=lambda exponents: (sum(exponents), exponents), reverse=True)
    return tuple([(totals[exponents], exponents) for exponents in kept])


def add(p, q):
    """Return the sum of two polynomials."""
    if not p or not q:
        return p or q
    return polynomial(len(p[0][1]), list(p) + list(q))


def degree_of(p):
    """Return the greatest total degree of the terms, 0 for the polynomial 0."""
    return sum(p[0][1]) if p else 0


def multiply(p, q):
    """Return the product of two polynomials."""
    if not p or not q:
        return ()
    k = len(p[0][1])
    width = degree_of(p) + degree_of(q) + 1
    first = pack(p, width)
    second = pack(q, width)
    # A common denominator of many different fractions is far longer than each of them.
    if first[0] > LONG or second[0] > LONG:
        return polynomial(k, [multiply_terms(term, other) for term in p for other in q])
    return unpack(k, multiply_packed(first, second), width)


def multiply_terms(term, other):
    """Return the product of two terms."""
    return (times(term[0], other[0]), tuple([a + b for a, b in zip(term[1], other[1])]))


def scale(p, c):
    """Return the polynomial p times the rational c."""
    if c == ZERO:
        return ()
    return tuple([(times(coefficient, c), exponents) for coefficient, exponents in p])


def value(p, numbers):
    """Return the value of p at the tuple of rationals."""
    pieces = []
    for coefficient, exponents in p:
        piece = coefficient
        for number, exponent in zip(numbers, exponents):
            if exponent > 0:
                piece = times(piece, power(number, exponent))
        pieces.append(piece)
    return total_of(pieces)


def sign_of_value(p, numbers):
    """Return the sign of the value of p at the tuple of rationals."""
    return sign_of(value(p, numbers)[0])


def packed_power(packed, exponent):
    """Return the packed polynomial to an exponent that is at least 0."""
    result = (1, {0: 1})
    while exponent > 0:
        if exponent & 1:
            result = multiply_packed(result, packed)
        exponent = exponent >> 1
        if exponent > 0:
            packed = multiply_packed(packed, packed)
    return result


def put_in(m, p, polynomials):
    """Return p with the polynomials of m variables in place of its variables."""
    width = degree_of(p) * max([degree_of(q) for q in polynomials], default=0) + 1
    packed = [pack(q, width) for q in polynomials]
    total = (1, {})
    for coefficient, exponents in p:
        piece = (coefficient[1], {0: coefficient[0]})
        for place, exponent in enumerate(exponents):
            piece = multiply_packed(piece, packed_power(packed[place], exponent))
        total = add_packed(total, piece)
    return unpack(m, total, width)


def is_exponents(k, x):
    """Return True if x is a tuple of k integers that are at least 0."""
    if not isinstance(x, tuple) or len(x) != k:
        return False
    return all([is_whole(exponent) and exponent >= 0 for exponent in x])


def is_term(k, x):
    """Return True if x is a term of a polynomial of k variables."""
    if not isinstance(x, tuple) or len(x) != 2:
        return False
    return is_rational(x[0]) and x[0] != ZERO and is_exponents(k, x[1])


def is_polynomial(k, x):
    """Return True if x is a polynomial of k variables."""
    if not isinstance(x, tuple) or not all([is_term(k, term) for term in x]):
        return False
    ranks = [(sum(exponents), exponents) for coefficient, exponents in x]
    return all([before > after for before, after in zip(ranks, ranks[1:])])


def constant(k, c):
    """Return the constant polynomial c of k variables."""
    return ((c, (0,) * k),) if c != ZERO else ()


def variable(k, i):
    """Return the polynomial of k variables that is variable i alone."""
    return ((ONE, (0,) * i + (1,) + (0,) * (k - 1 - i)),)
