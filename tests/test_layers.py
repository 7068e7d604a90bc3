"""Parts, layers and why a map is not told (points 26 to 31)."""

import unittest

from helpers import Picker, check_call, check_error, p
from roundknown.errors import BadValue, NotTold
from roundknown.layers import matrix_of, parts, spectrum, why_not
from roundknown.matrices import characteristic, eigenvalues
from roundknown.polynomials import polynomial

LAYERED = (p(3, y=2), p(3, x=8), p(3, z=2, xy=1))
FIBONACCI = (p(2, x=1, y=1), p(2, x=1))
PRODUCT = (p(2, xy=1), p(2, y=1))
NO_MAPS = [None, (), list(FIBONACCI), (p(1, x4=1),), (p(1, x=21),), (p(2, x=1),)]


class PartTests(unittest.TestCase):
    def test_example(self):
        check_call(self, [(0, 1), (2,)], parts, LAYERED)
        check_call(self, (((0, 1), (2, 1)), ((8, 1), (0, 1))), matrix_of, LAYERED, 0)
        check_call(self, (((2, 1),),), matrix_of, LAYERED, 1)
        check_call(self, [(((-4, 1), 1), ((4, 1), 1)), (((2, 1), 1),)], spectrum, LAYERED)
        check_call(self, None, why_not, LAYERED)

    def test_order(self):
        check_call(self, [(0,)], parts, ((),))
        check_call(self, [(0,), (1,), (2,)], parts, ((), (), ()))
        check_call(self, [(0,), (1,), (2,)], parts, (p(3, x=1), p(3, x=1), p(3, y=1)))
        check_call(self, [(2,), (1,), (0,)], parts, (p(3, y=1), p(3, z=1), p(3, z=1)))
        check_call(self, [(1,), (2,), (0,)], parts, (p(3, y=1, z=1), p(3, one=1), p(3, one=1)))
        check_call(self, [(1,), (0,), (2,)], parts, (p(3, y=1), p(3, y=1), p(3, one=1)))
        check_call(self, [(2,), (0,), (1,)], parts, (p(3, z=1), p(3, z3=1), p(3, one=1)))
        check_call(self, [(0, 2), (1,)], parts, (p(3, z=1), p(3, x=1), p(3, x=1)))
        check_call(self, [(1,), (0, 2)], parts, (p(3, z=1, y2=1), p(3, one=1), p(3, x=1)))
        check_call(self, [(1, 2), (0,)], parts, (p(3, z=1), p(3, z=1), p(3, y=1)))
        check_call(self, [(0, 1, 2)], parts, (p(3, y=1), p(3, z=1), p(3, x=1)))
        check_call(self, [(0, 1, 2)], parts, (p(3, y=1, z=1), p(3, x=1), p(3, x=1)))
        check_call(self, [(0, 1, 2)], parts, (p(3, y=1), p(3, x=1, z=1), p(3, y=1)))

    def test_uses_any_exponent(self):
        check_call(self, [(0, 1)], parts, (p(2, x2y3=1), p(2, x=1)))
        check_call(self, [(0,), (1,)], parts, (p(2, x2=1), p(2, x=1)))

    def test_against_slow_closure(self):
        picker = Picker(7)
        for _ in range(300):
            k = picker.number(1, 3)
            rules = []
            for _ in range(k):
                rows = []
                for _ in range(picker.number(0, 2)):
                    rows.append(((1, 1), tuple([picker.number(0, 3) // 3 for _ in range(k)])))
                rules.append(polynomial(k, rows))
            uses = {(j, i) for j in range(k) for _, e in rules[j] for i in range(k) if e[i] > 0}
            reaches = set(uses)
            for _ in range(k):
                reaches |= {(a, d) for a, b in reaches for c, d in reaches if b == c}
            found = parts(tuple(rules))
            self.assertEqual(sorted([i for part in found for i in part]), list(range(k)))
            for part in found:
                for i in range(k):
                    together = i == part[0] or ((i, part[0]) in reaches and (part[0], i) in reaches)
                    self.assertEqual(i in part, together)
            done = set()
            for place, part in enumerate(found):
                ready = [
                    other for other in found[place:]
                    if all(i in other or i in done for j in other for i in range(k) if (j, i) in uses)
                ]
                self.assertEqual(part, min(ready))
                self.assertEqual(list(part), sorted(part))
                done |= set(part)

    def test_matrix_of(self):
        rules = (p(3, x=3, y=(1, 2), z2=5, z=7, one=9), p(3, x=-4), p(3, z=(1, 3), one=1))
        check_call(self, [(2,), (0, 1)], parts, rules)
        check_call(self, (((1, 3),),), matrix_of, rules, 0)
        check_call(self, (((3, 1), (1, 2)), ((-4, 1), (0, 1))), matrix_of, rules, 1)
        check_call(self, (((0, 1),),), matrix_of, ((),), 0)
        check_call(self, (((0, 1),),), matrix_of, (p(2, one=3), p(2, x=1)), 1)

    def test_matrix_of_a_map_that_is_not_told(self):
        check_call(self, (((1, 1), (1, 1)), ((1, 1), (0, 1))), matrix_of, FIBONACCI, 0)


class ToldTests(unittest.TestCase):
    def test_examples(self):
        reason = ("irrational", (0, 1), ((-1, 1), (-1, 1), (1, 1)))
        check_call(self, reason, why_not, FIBONACCI)
        check_call(self, ("product", 0, ((1, 1), (1, 1))), why_not, PRODUCT)

    def test_told(self):
        for rules in [((),), ((), (), ()), (p(1, x=5, one=3),), (p(2, x=1, y3=2), p(2, y=-1))]:
            check_call(self, None, why_not, rules)
        check_call(self, [(((0, 1), 1),)], spectrum, ((),))
        check_call(self, [(((0, 1), 2),)], spectrum, (p(2, x=1, y=1), p(2, x=-1, y=-1)))
        three = (p(3, y=1, z=1), p(3, x=1, z=1), p(3, x=1, y=1))
        check_call(self, [(((-1, 1), 2), ((2, 1), 1))], spectrum, three)

    def test_first_reason(self):
        # Both kinds of reasons apply: the product counts, even in a later part.
        rules = (p(3, y=2), p(3, x=1), p(3, z2=1))
        check_call(self, ("product", 2, ((1, 1), (0, 0, 2))), why_not, rules)
        # Two parts have products: the first part counts, not the least variable.
        rules = (p(2, x2=1, y=1), p(2, y3=2, y2=5))
        check_call(self, ("product", 1, ((2, 1), (0, 3))), why_not, rules)
        # Two variables of a part and two terms of one polynomial.
        rules = (p(2, x=1, y=1, one=4), p(2, y3=1, x2=3, xy=2, x=1))
        check_call(self, ("product", 1, ((1, 1), (0, 3))), why_not, rules)
        rules = (p(2, y=1, xy=(2, 3), x2=-1, one=4), p(2, y3=1, x=1))
        check_call(self, ("product", 0, ((-1, 1), (2, 0))), why_not, rules)
        # The first part that does not split.
        rules = (p(3, x=1), p(3, z=3), p(3, y=1, x2=1))
        check_call(self, ("irrational", (1, 2), ((-3, 1), (0, 1), (1, 1))), why_not, rules)

    def test_products_with_earlier_parts(self):
        rules = (p(2, xy=1, x=1), p(2, y=1))
        check_call(self, ("product", 0, ((1, 1), (1, 1))), why_not, rules)
        rules = (p(3, x=1, y3z3=1), p(3, y=1), p(3, z=1))
        check_call(self, None, why_not, rules)

    def test_against_the_parts(self):
        picker = Picker(8)
        words = set()
        for _ in range(300):
            k = picker.number(1, 3)
            rules = []
            for _ in range(k):
                rows = {}
                for _ in range(picker.number(0, 3)):
                    exponents = tuple([max(0, picker.number(-2, 2)) for _ in range(k)])
                    if picker.number(0, 3) > 0:
                        place = picker.number(0, k - 1)
                        exponents = tuple([int(i == place) for i in range(k)])
                    rows[exponents] = picker.nonzero(3, 2)
                rules.append(polynomial(k, [(c, e) for e, c in rows.items()]))
            rules = tuple(rules)
            expected = slow_reason(rules)
            check_call(self, expected, why_not, rules)
            words.add(expected and expected[0])
            if expected is None:
                found = [eigenvalues(matrix_of(rules, i))[0] for i in range(len(parts(rules)))]
                check_call(self, found, spectrum, rules)
            else:
                check_error(self, NotTold, {"reason": expected}, spectrum, rules)
        self.assertEqual(words, {None, "product", "irrational"})

    def test_errors(self):
        for bad in NO_MAPS:
            for call in (parts, why_not, spectrum):
                check_error(self, BadValue, {"name": "map"}, call, bad)
            check_error(self, BadValue, {"name": "map"}, matrix_of, bad, 0)
            check_error(self, BadValue, {"name": "map"}, matrix_of, bad, -1)
        reason = ("product", 0, ((1, 1), (1, 1)))
        check_error(self, NotTold, {"reason": reason}, matrix_of, PRODUCT, 0)
        check_error(self, NotTold, {"reason": reason}, matrix_of, PRODUCT, 7)
        check_error(self, NotTold, {"reason": reason}, spectrum, PRODUCT)
        for bad in [-1, 2, True, False, None, "0", (0,)]:
            check_error(self, BadValue, {"name": "part"}, matrix_of, LAYERED, bad)
        check_error(self, BadValue, {"name": "part"}, matrix_of, FIBONACCI, 1)


def slow_reason(rules):
    """The reason of point 29, from the parts and the matrices of the interface."""
    found = parts(rules)
    for part in found:
        for i in part:
            for term in rules[i]:
                if any(term[1][j] > 0 for j in part) and sum(term[1]) != 1:
                    return ("product", i, term)
    for place, part in enumerate(found):
        matrix = matrix_of(rules, place)
        if not eigenvalues(matrix)[1]:
            return ("irrational", part, characteristic(matrix))
    return None


if __name__ == "__main__":
    unittest.main()
