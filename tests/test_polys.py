"""[2.6], [2.7]: polynomials."""

import random
import unittest
from math import gcd

from levelroads.base import polys as module
from levelroads.base.polys import (
    is_irreducible, is_polynomial, poly_common, poly_factors, poly_product, poly_quotient, poly_value,
)
from levelroads.base.ratios import Ratio
from levelroads.base.tables import polynomial_of, rank_of, table_of
from levelroads.errors import InvalidCount, InvalidOperation, InvalidPolynomial, TooMany
from support import NO_INTEGERS, NO_WHOLES, SIXTY, SIXTY_ONE, Case

NO_POLYNOMIALS = tuple(value for value in NO_INTEGERS if value not in ((), (1,), (1, 2))) + (
    0, 1, 5, (0,), (1, 0), (0, 0, 0), [1], [1, 2], ((1,),), ("1",), (1, "2"), (1, None), (True,), (1, False, 2),
    (1, True), (Ratio(1),), (2, Ratio(1)), (0,) * 61, (1,) * 62, (0,) * 61 + (1,),
)


def plain_product(one, other):
    entries = {}
    for k, a in enumerate(one):
        for at, b in enumerate(other):
            entries[k + at] = entries.get(k + at, 0) + a * b
    return tuple(entries[k] for k in sorted(entries))


def product_of_all(polys):
    product = (1,)
    for poly in polys:
        product = plain_product(product, poly)
    return product


def cyclotomic(order):
    """The monic irreducible polynomial of the roots of 1 that have this order."""
    rest = (-1,) + (0,) * (order - 1) + (1,)
    for k in range(1, order):
        if order % k == 0:
            rest = poly_quotient(rest, cyclotomic(k))
    return rest


# Monic and irreducible: by Eisenstein, as X^p - X - 1, of roots of 1, or of sums of roots, such as sqrt 2 + sqrt 3.
IRREDUCIBLE = [
    (0, 1), (5, 1), (-7, 1), (10 ** 30, 1), (1, 0, 1), (-2, 0, 1), (1, 1, 1), (3, -3, 1), (-10 ** 20 - 39, 0, 1),
    (2, 0, 0, 1), (-1, -1, 0, 1), (3, 6, -9, 1), (1, 0, 0, 0, 1), (1, 0, -10, 0, 1), (-1, -1, 0, 0, 0, 1),
    (7, 0, 14, 0, -21, 0, 1), (-1, -1, 0, 0, 0, 0, 0, 1), (576, 0, -960, 0, 352, 0, -40, 0, 1),
    (-1, -1) + (0,) * 9 + (1,), (6, 0, -10 ** 40) + (0,) * 8 + (2, 1),
    (2 * 10 ** 59 - 2,) + (0,) * 11 + (1,), (7,) + (0,) * 5 + (7 * 10 ** 58,) + (0,) * 5 + (1,),
] + [cyclotomic(order) for order in (5, 7, 8, 9, 11, 12, 13, 15, 16, 20, 21, 24, 28, 30, 36, 42)]
# Of these each prime number has a factor, though they are irreducible.
SPLIT_MODULO_ALL = [(1, 0, 0, 0, 1), (1, 0, -10, 0, 1), (576, 0, -960, 0, 352, 0, -40, 0, 1)] + [
    cyclotomic(order) for order in (8, 12, 15, 16, 20, 21, 24, 28, 30, 36, 42)]


class Examples(Case):
    def test_examples(self):
        self.same(
            [poly_product((1, 1), (-1, 1)), poly_quotient((-1, 0, 1), (1, 1)), poly_quotient((1, 0, 1), (1, 1)),
             poly_value((1, 0, 2), -3), poly_common((-1, 0, 1), (1, 2, 1))],
            [(-1, 0, 1), (-1, 1), None, 19, (1, 1)])
        self.same(
            [poly_factors((-4, 0, 0, 0, 1)), poly_factors((4, 0, 0, 0, 1)), is_irreducible((1, 0, 0, 0, 1)),
             poly_factors((0, 0, 1))],
            [(((-2, 0, 1), 1), ((2, 0, 1), 1)), (((2, -2, 1), 1), ((2, 2, 1), 1)), True, (((0, 1), 2),)])

    def test_constants(self):
        self.same([module.MAX_DEGREE, module.MAX_FACTORED], [60, 12])


class Judging(Case):
    def test_polynomials(self):
        long = 10 ** 3000
        for value in ((), (1,), (-5,), (0, 1), (0, 0, -1), (SIXTY, -SIXTY), (SIXTY_ONE,), (0, -SIXTY_ONE), (long, 1),
                      (1, -long), (1,) * 61, (0,) * 60 + (1,)):
            self.assertIs(is_polynomial(value), True)
        for value in NO_POLYNOMIALS:
            self.assertIs(is_polynomial(value), False, value)

    def test_errors_of_all(self):
        near = NO_POLYNOMIALS + ((SIXTY_ONE,), (0, -SIXTY_ONE), (SIXTY_ONE, 1))
        for value in near:
            for call in (poly_factors, is_irreducible):
                self.refused(InvalidPolynomial, call, value)
            for call in (poly_product, poly_quotient, poly_common):
                self.refused(InvalidPolynomial, call, value, value)
                self.refused(InvalidPolynomial, call, value, ())
                self.refused(InvalidPolynomial, call, (), value)
                self.refused(InvalidPolynomial, call, (1,) * 61, value)
            self.refused(InvalidPolynomial, poly_value, value, 1)
            self.refused(InvalidPolynomial, poly_value, value, "x")


class Products(Case):
    def setUp(self):
        self.random = random.Random(21)

    def poly(self, degree, size=5):
        entries = [self.random.randint(-size, size) for _ in range(degree)]
        return tuple(entries) + (self.random.choice((-1, 1)) * self.random.randint(1, size),)

    def test_products_and_quotients(self):
        for one in range(7):
            for other in range(7):
                for size in (1, 5, 10 ** 25):
                    first, second = self.poly(one, size), self.poly(other, size)
                    product = poly_product(first, second)
                    self.same(product, plain_product(first, second))
                    self.same(poly_quotient(product, second), first)
                    self.same(poly_quotient(product, first), second)
                    if one:
                        self.same(poly_quotient((product[0] + 1,) + product[1:], first), None)

    def test_quotients_that_are_not_there(self):
        self.same([poly_quotient((1, 2), (2,)), poly_quotient((2, 4), (2,)), poly_quotient((1, 1), (1, 2)),
                   poly_quotient((1, 2, 1), (2, 2)), poly_quotient((1,), (1, 1)), poly_quotient((3,), (5,)),
                   poly_quotient((0, 0, 1), (0, 1)), poly_quotient((1, 0, 1), (0, 1)), poly_quotient((-3,), (-1,))],
                  [None, (1, 2), None, None, None, None, (0, 1), None, (3,)])
        # The quotient has ratios, not integers.
        self.same(poly_quotient((1, 3, 2), (2, 2)), None)
        self.same(poly_quotient((2, 6, 4), (2, 2)), (1, 2))

    def test_zero_and_constants(self):
        for poly in ((), (1,), (-3,), (1, 2, 3), (SIXTY,) * 61):
            self.same(poly_product(poly, ()), ())
            self.same(poly_product((), poly), ())
            self.same(poly_product(poly, (1,)), poly)
            self.same(poly_product((-1,), poly), tuple(-entry for entry in poly))
            self.same(poly_quotient(poly, (1,)), poly)
            self.refused(InvalidOperation, poly_quotient, poly, ())
            if poly:
                self.same(poly_quotient((), poly), ())
                self.same(poly_quotient(poly, poly), (1,))

    def test_degrees(self):
        self.same(poly_product((1,) * 31, (0,) * 30 + (1,)), (0,) * 30 + (1,) * 31)
        self.same(poly_product((0,) * 60 + (2,), (3,)), (0,) * 60 + (6,))
        for one, other in (((1,) * 31, (1,) * 32), ((1,) * 61, (0, 1)), ((1,) * 61, (1,) * 61)):
            self.refused_with(TooMany, "limit", 60, poly_product, one, other)
        self.same(poly_quotient((-1,) + (0,) * 59 + (1,), (-1, 1)), (1,) * 60)
        self.same(poly_product((SIXTY,), (SIXTY,)), (SIXTY * SIXTY,))

    def test_values(self):
        for degree in range(6):
            poly = self.poly(degree)
            for x in range(-5, 6):
                self.same(poly_value(poly, x), sum(entry * x ** k for k, entry in enumerate(poly)))
        self.same([poly_value((), 5), poly_value((7,), 5), poly_value((1, 1), SIXTY), poly_value((0, 0, 1), -SIXTY)],
                  [0, 7, SIXTY + 1, SIXTY * SIXTY])
        self.same(poly_value((1,) * 61, 1), 61)
        for value in NO_INTEGERS:
            self.refused_with(InvalidCount, "value", value, poly_value, (1, 2), value)
            self.refused_with(InvalidCount, "value", value, poly_value, (), value)

    def test_common_divisors(self):
        for one in range(5):
            for other in range(5):
                for shared in range(4):
                    first, second, third = self.poly(one), self.poly(other), self.poly(shared)
                    a, b = plain_product(first, third), plain_product(second, third)
                    common = poly_common(a, b)
                    self.same(poly_common(b, a), common)
                    self.assertEqual((gcd(*common), common[-1] > 0), (1, True))
                    # It divides both, up to ratios, and so does `third` it; what is left has nothing in common.
                    lead = common[-1] ** 9
                    self.assertIsNotNone(poly_quotient(tuple(lead * entry for entry in a), common))
                    self.assertIsNotNone(poly_quotient(tuple(lead * entry for entry in b), common))
                    times = third[-1] ** 9
                    self.assertIsNotNone(poly_quotient(tuple(times * entry for entry in common), third))
                    rests = [poly_quotient(tuple(lead * entry for entry in poly), common) for poly in (a, b)]
                    self.same(poly_common(*rests), (1,))

    def test_common_divisors_at_edges(self):
        self.same([poly_common((), (4, -6)), poly_common((-4, 6), ()), poly_common((4,), (6,)), poly_common((), (-5,)),
                   poly_common((2, 2), (4,)), poly_common((1, 1), (2, 1)), poly_common((2, -2), (-3, 3)),
                   poly_common((0, 0, 4), (0, 6)), poly_common((1, 2, 1), (-1, -1))],
                  [(-2, 3), (-2, 3), (1,), (1,), (1,), (1,), (-1, 1), (0, 1), (1, 1)])
        self.refused(InvalidOperation, poly_common, (), ())
        great = (-1,) + (0,) * 59 + (1,)
        self.same(poly_common(great, (-1,) + (0,) * 44 + (1,)), (-1,) + (0,) * 14 + (1,))
        long = tuple(SIXTY - k * k for k in range(60)) + (SIXTY,)
        self.same(poly_common(long, long[::-1]), (1,))
        self.same(poly_common(long, tuple(-entry for entry in long)), long)


class Factors(Case):
    def setUp(self):
        self.random = random.Random(22)

    def check(self, parts):
        """The factors of the product of some irreducible polynomials."""
        poly = product_of_all(parts)
        if len(poly) > 13 or max(abs(entry) for entry in poly) > SIXTY:
            return 0
        wanted = sorted(set(parts), key=lambda part: (len(part), part))
        self.same(poly_factors(poly), tuple((part, parts.count(part)) for part in wanted))
        self.assertIs(is_irreducible(poly), len(parts) == 1)
        return 1

    def test_irreducible(self):
        for poly in IRREDUCIBLE:
            self.assertEqual(self.check([poly]), 1)

    def test_products(self):
        tried = 0
        for _ in range(400):
            many = self.random.randint(1, 5)
            tried += self.check([self.random.choice(IRREDUCIBLE[:18]) for _ in range(many)])
        self.assertGreater(tried, 150)
        for one in IRREDUCIBLE:
            for other in IRREDUCIBLE[:12]:
                self.check([one, other])

    def test_repeated(self):
        for many in range(1, 13):
            self.check([(3, 1)] * many)
        for many in range(1, 7):
            self.check([(1, 0, 1)] * many)
            self.check([(2, 1)] * many + [(0, 1)] * (12 - many))
        self.check([(1, 0, 0, 0, 1)] * 3)
        self.check([(2, 0, 0, 1)] * 2 + [(-1, -1, 0, 1)] * 2)

    def test_many_integer_roots(self):
        self.check([(k, 1) for k in range(-6, 6)])
        self.check([(10 ** 4 * k + 1, 1) for k in range(12)])
        # The difference of both roots is a multiple of many prime numbers.
        product = 1
        for prime in (2, 3, 5, 7, 11, 13, 17, 19, 23, 29, 31, 37, 41, 43, 47):
            product *= prime
        self.check([(0, 1), (product, 1)])
        self.check([(1, 1), (product + 1, 1), (2 * product + 1, 1)])

    def test_powers_less_one(self):
        for order in range(1, 13):
            poly = (-1,) + (0,) * (order - 1) + (1,)
            parts = [cyclotomic(k) for k in range(1, order + 1) if order % k == 0]
            self.same(poly_factors(poly), tuple((part, 1) for part in sorted(parts, key=lambda p: (len(p), p))))

    def test_split_modulo_all(self):
        for poly in SPLIT_MODULO_ALL:
            self.assertIs(is_irreducible(poly), True)
            for prime in (2, 3, 5, 7, 11, 13):
                self.assertFalse(irreducible_modulo(poly, prime))
        self.check([(1, 0, 0, 0, 1), (576, 0, -960, 0, 352, 0, -40, 0, 1)])

    def plain_parts(self, poly):
        """The irreducible factors of a monic polynomial of the degrees 1 to 3, by all integers that can be roots."""
        if len(poly) == 2:
            return [poly]
        for root in range(-1 - max(abs(entry) for entry in poly), 2 + max(abs(entry) for entry in poly)):
            if sum(entry * root ** k for k, entry in enumerate(poly)) == 0:
                return [(-root, 1)] + self.plain_parts(poly_quotient(poly, (-root, 1)))
        return [poly]

    def test_products_of_small_degrees(self):
        met = 0
        for size in (1, 2, 6, 30, 300):
            for _ in range(150 if size < 300 else 40):
                parts = []
                for _ in range(self.random.randint(1, 6)):
                    degree = self.random.randint(1, 3)
                    part = tuple(self.random.randint(-size, size) for _ in range(degree)) + (1,)
                    parts += self.plain_parts(part) * self.random.choice((1, 1, 1, 2))
                met += self.check(parts)
        self.assertGreater(met, 400)

    def test_great_values(self):
        """Where the values at 0 or at 1 are so great, or have so many divisors, that these are not tried."""
        for end in (720720, 49999, 50000, 50001, 10 ** 9, 10 ** 15 + 37):
            for parts in ([(end, 1), (-end, 1), (1, 1)], [(end, 1, 1), (1, 0, 1)], [(end, 0, 1)] * 2 + [(7, 1)],
                          [(2 * end + 1, 2, 1), (1, 1)], [(2, 0, 0, 1), (end - 2, end, 1)],
                          [(1, 1, 1), (1, end, 1)], [(2, 0, end * 2, 1), (1, 1, end * 3 + 1, 1)]):
                self.assertEqual(self.check(parts), 1)
        # A product of quadratic polynomials whose values at 0 and 1 have very many divisors.
        self.check([(12, 0, 1), (60, 0, 1), (30, 1, 1), (20, 3, 1)])
        self.check([(5040, 0, 1), (12, 1, 1), (-2, 0, 0, 1)])

    def test_alike_modulo_many(self):
        """Factors that are the same modulo many prime numbers, once or more often."""
        many = 4
        for prime in (3, 5, 7, 11, 13, 17, 19, 23, 29, 31):
            many *= prime
        one, other = (2, 0, 0, 1), (2 + many, 0, 0, 1)
        for parts in ([one, other], [one, one, other], [one, one], [other] * 3, [one, other, (1, 1)],
                      [(2, 0, 0, 0, 1), (2 + many, 0, 0, 0, 1)], [(2, 0, 0, 0, 1)] * 3):
            self.assertEqual(self.check(parts), 1)

    def test_reported(self):
        """Inputs that once took long."""
        self.same(poly_factors((0, 48, -144, -3, -167, -96, -53, -10, 4, 1)),
                  (((-4, 1), 1), ((0, 1), 1), ((4, 1), 1), ((-1, 3, 1, 1), 1), ((3, 0, 3, 1), 1)))
        self.same(poly_factors((0, -4, 9, 9, 18, 10, 5, 1)), (((0, 1), 1), ((-1, 3, 1, 1), 1), ((4, 3, 4, 1), 1)))
        self.same(poly_factors((36, 72, 104, 73, 42, 9, -42, -11, 4, 1)),
                  (((-3, 1), 1), ((1, 1), 1), ((3, 1), 1), ((-1, -1, -1, 1), 1), ((4, 0, 4, 1), 1)))
        self.same([is_irreducible(poly) for poly in ((1, 1), (-1, -1, 1), (1, 0, 1, 1), (1, 0, 0, 0, 1), (6, -5, 1))],
                  [True, True, True, True, False])

    def test_order(self):
        parts = [(5, 1), (-5, 1), (0, 1), (1, 1), (1, 0, 1), (-2, 0, 1), (1, 1, 1), (2, 0, 1)]
        self.check(parts)
        self.check(parts[::-1])
        self.same(poly_factors((0, 0, -25, 0, 1)), (((-5, 1), 1), ((0, 1), 2), ((5, 1), 1)))

    def test_edges(self):
        self.same([poly_factors((1,)), is_irreducible((1,)), poly_factors((0, 1)), is_irreducible((0, 1)),
                   is_irreducible((SIXTY, 1)), is_irreducible((0, 0, 1))],
                  [(), False, (((0, 1), 1),), True, True, False])
        self.same(poly_factors((0,) * 12 + (1,)), (((0, 1), 12),))
        for call in (poly_factors, is_irreducible):
            for poly in ((), (2,), (-1,), (1, 2), (1, -1), (5, 0, 3), (1,) * 12 + (2,), (1,) * 13 + (2,), (2,) * 61):
                self.refused(InvalidOperation, call, poly)
            for degree in (13, 14, 60):
                self.refused_with(TooMany, "limit", 12, call, (1,) * degree + (1,))

    def test_long_integers(self):
        long = 10 ** 29
        self.check([(long - 7, 1), (-long, 1), (3, 1)])
        self.check([(long + 1, 5, 1), (-long, 0, 1)])
        self.same(is_irreducible((2 * (10 ** 59 - 1),) + (2 * 10 ** 58,) * 11 + (1,)), True)


def irreducible_modulo(poly, prime):
    """Whether a monic polynomial has no factor modulo a prime number of at most half its degree."""
    size = len(poly) - 1
    power = [0, 1] + [0] * (size - 2)
    for _ in range(size // 2):
        power = raised(power, prime, poly)
        less = power[:]
        less[1] -= 1
        if len(common_modulo(list(poly), [entry % prime for entry in less], prime)) > 1:
            return False
    return True


def raised(power, prime, poly):
    result = [1] + [0] * (len(poly) - 2)
    for _ in range(prime):
        entries = [0] * (2 * len(poly))
        for k, a in enumerate(result):
            for at, b in enumerate(power):
                entries[k + at] += a * b
        for top in range(len(entries) - 1, len(poly) - 2, -1):
            factor = entries[top]
            for k, entry in enumerate(poly):
                entries[top - len(poly) + 1 + k] -= factor * entry
        result = [entry % prime for entry in entries[:len(poly) - 1]]
    return result


def common_modulo(one, other, prime):
    def cut(entries):
        while entries and entries[-1] % prime == 0:
            entries = entries[:-1]
        return entries
    one, other = cut(one), cut(other)
    while other:
        while len(one) >= len(other):
            factor = one[-1] * pow(other[-1], -1, prime)
            shift = len(one) - len(other)
            less = [0] * shift + [factor * entry for entry in other]
            one = cut([(entry - away) % prime for entry, away in zip(one, less)])
        one, other = other, one
    return one


class Statements(Case):
    """[2.7]"""

    def test_integer_roots(self):
        chance = random.Random(23)
        for _ in range(60):
            roots = [chance.randint(-20, 20) for _ in range(chance.randint(1, 4))]
            poly = product_of_all([(-root, 1) for root in roots] + [(1, 0, 1)])
            told = {-part[0]: many for part, many in poly_factors(poly) if len(part) == 2}
            self.assertEqual(told, {root: roots.count(root) for root in roots})
            for root in told:
                self.assertEqual(poly_value(poly, root), 0)
                self.assertTrue(poly[0] == 0 if root == 0 else poly[0] % root == 0)

    def test_what_is_not_true(self):
        # No root modulo 3, but not irreducible.
        self.assertEqual([poly_value((1, 0, 2, 0, 1), x) % 3 for x in range(3)].count(0), 0)
        self.assertIs(is_irreducible((1, 0, 2, 0, 1)), False)
        # A root modulo each prime number, but no integer.
        poly = product_of_all([(-2, 0, 1), (-3, 0, 1), (-6, 0, 1)])
        for prime in (2, 3, 5, 7, 11, 13, 17, 19, 23):
            self.assertIn(0, [poly_value(poly, x) % prime for x in range(prime)])
        self.assertEqual([len(part) for part, _ in poly_factors(poly)], [3, 3, 3])
        one, other = table_of(((0, 0), (0, 0))), table_of(((0, 1), (0, 0)))
        self.assertEqual(polynomial_of(one), polynomial_of(other))
        self.assertNotEqual(rank_of(one), rank_of(other))

    def test_other_kinds_of_values(self):
        for value in NO_WHOLES:
            self.assertIs(is_polynomial((1, value)), False)


if __name__ == "__main__":
    unittest.main()
