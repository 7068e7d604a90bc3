"""Polynomials as dicts of integers, for fast sums and products.

A packed polynomial is a tuple (bottom, table): the table leads from keys to integers, and the
polynomial is the table divided by bottom. A key holds the total degree and the exponents as digits to
a width that no degree of the calculation reaches. So the key of a product is the sum of the keys,
and descending keys are terms in the order of point 12.
"""

from math import lcm

from roundknown.rationals import common_bottom, ratio


def pack(p, width):
    """Return the polynomial p packed to this width."""
    bottom = common_bottom([term[0] for term in p])
    table = {}
    for coefficient, exponents in p:
        table[key_of(exponents, width)] = coefficient[0] * (bottom // coefficient[1])
    return (bottom, table)


def key_of(exponents, width):
    """Return the key of a tuple of exponents."""
    key = sum(exponents)
    for exponent in exponents:
        key = key * width + exponent
    return key


def exponents_of(k, key, width):
    """Return the k exponents of a key."""
    digits = []
    for _ in range(k):
        digits.append(key % width)
        key = key // width
    return tuple(digits[::-1])


def unpack(k, packed, width):
    """Return the polynomial of k variables that was packed to this width."""
    bottom, table = packed
    keys = sorted(table, reverse=True)
    return tuple([(ratio(table[key], bottom), exponents_of(k, key, width)) for key in keys if table[key] != 0])


def add_packed(first, second):
    """Return the sum of two packed polynomials."""
    bottom = lcm(first[0], second[0])
    many = bottom // first[0]
    table = {key: many * count for key, count in first[1].items()}
    many = bottom // second[0]
    for key, count in second[1].items():
        table[key] = table.get(key, 0) + many * count
    return (bottom, table)


def multiply_packed(first, second):
    """Return the product of two packed polynomials."""
    table = {}
    for key, count in first[1].items():
        for other, many in second[1].items():
            table[key + other] = table.get(key + other, 0) + count * many
    return (first[0] * second[0], table)
