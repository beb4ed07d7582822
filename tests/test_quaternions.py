"""[10.1] to [10.6]: quaternions."""

import random
import unittest
from fractions import Fraction

from levelroads.base.ratios import Ratio
from levelroads.base.tables import determinant_of, table_of
from levelroads.errors import InvalidCount, InvalidElement, InvalidOperation, InvalidPrime
from levelroads.quat import quaternions as module
from levelroads.quat.quaternions import Order, least_modulus, root_modulus
from support import NO_INTEGERS, SIXTY, SIXTY_ONE, Case

PRIMES = (2, 3, 5, 7, 11, 13, 17, 19, 23, 29, 31, 37, 41, 43, 47, 53, 59, 61, 67, 71, 73, 79, 83, 89, 97)
ORDERS = {prime: Order(prime) for prime in PRIMES}
ELEVEN = ORDERS[11]
UNITS = {2: 24, 3: 12}
ONE_MODULO_EIGHT = (17, 41, 73, 89, 97)
NO_PRIMES = NO_INTEGERS + (0, -1, -2, 4, 9, 91, 98, 100, 101, 103, 10 ** 9 + 7, SIXTY, ELEVEN)
NO_ELEMENTS = NO_INTEGERS + (
    0, 5, (1, 2, 3), (1, 2, 3, 4, 5), [1, 2, 3, 4], ((1, 2, 3, 4),), (1, 2, 3, True), (False, 0, 0, 0),
    (1, 2, 3, "4"), (1, 2, None, 4), (1, 2, 3, SIXTY_ONE), (-SIXTY_ONE, 0, 0, 0), (Ratio(1), 0, 0, 0), "1234",
    (Ratio(1), Ratio(0), Ratio(0), Ratio(0)), {1: 2, 3: 4}, ELEVEN,
)
NO_NUMBERS = NO_INTEGERS + (-1, 401, SIXTY, (1, 2, 3, 4))
METHODS = ("multiplied", "conjugated", "norm_of", "trace_of", "pairing", "raised", "quaternion_of", "element_at",
           "elements_of", "quotient", "__eq__", "__str__", "prime", "squares", "basis", "one", "products", "pairings")


def told_basis(prime):
    """A, B and the basis of the table in [10.2], as fractions."""
    half = Fraction(1, 2)
    i, j, k = (0, 1, 0, 0), (0, 0, 1, 0), (0, 0, 0, 1)
    if prime == 2:
        return -1, -1, ((half,) * 4, i, j, k)
    if prime % 4 == 3:
        return -1, -prime, ((half, 0, half, 0), (0, half, 0, half), j, k)
    if prime % 8 == 5:
        quarter = Fraction(1, 4)
        return -2, -prime, ((half, 0, half, half), (0, quarter, half, quarter), j, k)
    q, c = told_modulus(prime)
    return -prime, -q, ((half, 0, half, 0), (0, half, 0, half), (0, 0, Fraction(1, q), Fraction(c, q)), k)


def told_modulus(prime):
    for q in range(3, 1000, 4):
        if all(q % k for k in range(2, q)) and all((x * x - prime) % q for x in range(q)):
            return q, [c for c in range(q) if (c * c * prime + 1) % q == 0][0]


class Plain:
    """Quaternions as tuples of fractions, by the rules of [10.1]."""

    def __init__(self, prime):
        self.a, self.b, self.basis = told_basis(prime)

    def of(self, x):
        return tuple(sum(many * part for many, part in zip(x, column)) for column in zip(*self.basis))

    def product(self, one, other):
        a, b = self.a, self.b
        # 1 i j k in each row and column: the sign with the square that comes in, and at which of the four.
        table = (((1, 0), (1, 1), (1, 2), (1, 3)), ((1, 1), (a, 0), (1, 3), (a, 2)),
                 ((1, 2), (-1, 3), (b, 0), (-b, 1)), ((1, 3), (-a, 2), (b, 1), (-a * b, 0)))
        found = [Fraction(0)] * 4
        for r, first in enumerate(one):
            for s, second in enumerate(other):
                many, at = table[r][s]
                found[at] += many * first * second
        return tuple(found)

    def norm(self, one):
        a, b, c, d = one
        return a * a - self.a * b * b - self.b * c * c + self.a * self.b * d * d


def conjugate(one):
    return (one[0],) + tuple(-part for part in one[1:])


def ratios(quaternion):
    return tuple(Ratio(Fraction(part).numerator, Fraction(part).denominator) for part in quaternion)


def fractions(row):
    return tuple(Fraction(part.top, part.bottom) for part in row)


def random_element(chance, size):
    return tuple(chance.randint(-size, size) for _ in range(4))


class Examples(Case):
    def test_examples(self):
        eleven = Order(11)
        self.same([eleven.squares, eleven.one, [str(one) for one in eleven.basis[0]], eleven.products[0][0],
                   eleven.products[1][3], str(eleven)],
                  [(-1, -11), (2, 0, -1, 0), ['1/2', '0', '1/2', '0'], (-5, 0, 3, 0), (-11, 0, 5, 0), 'order of 11'])
        x, y = (1, 2, 0, -1), (0, 1, 1, 0)
        self.same([eleven.multiplied(x, y), eleven.multiplied(y, x), eleven.norm_of(x), eleven.norm_of(y),
                   eleven.trace_of(x), eleven.conjugated(x)],
                  [(-12, 6, 6, -2), (-12, -5, 7, 2), 4, 14, 1, (1, -2, -1, 1)])
        self.same([eleven.elements_of(1), len(eleven.elements_of(3)), len(Order(2).elements_of(3)),
                   len(Order(3).elements_of(1)), Order(97).elements_of(3)],
                  [((-2, 0, 1, 0), (0, -2, 0, 1), (0, 2, 0, -1), (2, 0, -1, 0)), 8, 96, 12, ()])
        self.same([eleven.quotient(eleven.multiplied(x, y), y), eleven.quotient(x, y), eleven.raised(x, 0),
                   Order(17).squares, least_modulus(73), root_modulus(73), Order(5).one],
                  [(1, 2, 0, -1), None, (2, 0, -1, 0), (-17, -3), 7, 3, (2, 0, -1, -1)])
        self.refused(InvalidOperation, eleven.element_at, (Ratio(1, 2), Ratio(0), Ratio(0), Ratio(0)))
        self.same([eleven.norm_of(eleven.multiplied(x, y)), eleven.norm_of((1, 0, 0, 0))], [56, 3])

    def test_constants(self):
        self.same([module.MAX_PRIME, module.MAX_NORM, module.MAX_POWER], [97, 400, 60])


class Orders(Case):
    def test_basis(self):
        for prime, order in ORDERS.items():
            plain = Plain(prime)
            self.same([order.prime, order.squares, str(order)], [prime, (plain.a, plain.b), f"order of {prime}"])
            self.assertEqual((type(order.basis), [type(one) for one in order.basis]), (tuple, [tuple] * 4))
            self.assertTrue(all(type(part) is Ratio for one in order.basis for part in one))
            self.assertEqual([fractions(one) for one in order.basis], [tuple(map(Fraction, x)) for x in plain.basis])
            self.assertEqual(plain.of(order.one), (1, 0, 0, 0))
            self.assertTrue(all(type(part) is int for part in order.one))

    def test_products(self):
        for prime, order in ORDERS.items():
            plain = Plain(prime)
            for r, row in enumerate(order.products):
                for s, found in enumerate(row):
                    self.assertEqual([type(part) for part in found], [int] * 4)
                    self.assertEqual(plain.of(found), plain.product(plain.basis[r], plain.basis[s]))
            self.assertEqual((type(order.products), len(order.products), {type(row) for row in order.products}),
                             (tuple, 4, {tuple}))

    def test_pairings(self):
        """[10.4]"""
        for prime, order in ORDERS.items():
            plain = Plain(prime)
            for r, row in enumerate(order.pairings):
                for s, found in enumerate(row):
                    self.assertIs(type(found), int)
                    wanted = 2 * plain.product(plain.basis[r], conjugate(plain.basis[s]))[0]
                    self.assertEqual(found, wanted)
            self.assertEqual(determinant_of(table_of(order.pairings)), Ratio(prime * prime))
            self.assertEqual((type(order.pairings), {type(row) for row in order.pairings}), (tuple, {tuple}))

    def test_moduli(self):
        for prime in ONE_MODULO_EIGHT:
            self.same((least_modulus(prime), root_modulus(prime)), told_modulus(prime))

    def test_equal(self):
        for prime in PRIMES:
            for other in PRIMES:
                again = Order(other)
                self.assertEqual((ORDERS[prime] == again, ORDERS[prime] != again), (prime == other, prime != other))
        for value in NO_INTEGERS + (11, "order of 11", [ELEVEN]):
            self.assertEqual((ELEVEN == value, ELEVEN != value), (False, True))

    def test_never_changed(self):
        for name in ("prime", "squares", "basis", "one", "products", "pairings"):
            self.assertRaises(AttributeError, setattr, ELEVEN, name, 5)
        for name in METHODS:
            self.assertIn(name, vars(Order))
        self.assertRaises(TypeError, iter, ELEVEN)


class Elements(Case):
    def test_arithmetic(self):
        """[10.1], [10.3], [10.4] for drawn elements, great ones too."""
        chance = random.Random(121)
        for prime, order in ORDERS.items():
            plain = Plain(prime)
            for size in (2, 2, 50, 50, SIXTY):
                x, y = random_element(chance, size), random_element(chance, size)
                p, q = plain.of(x), plain.of(y)
                product = order.multiplied(x, y)
                self.assertEqual([type(part) for part in product], [int] * 4)
                self.assertEqual(plain.of(product), plain.product(p, q))
                back = order.conjugated(x)
                self.assertEqual((plain.of(back), {type(part) for part in back}), (conjugate(p), {int}))
                self.assertEqual((order.norm_of(x), order.trace_of(x)), (plain.norm(p), 2 * p[0]))
                self.assertEqual(order.pairing(x, y), 2 * plain.product(p, conjugate(q))[0])
                self.assertEqual({type(order.norm_of(x)), type(order.trace_of(x)), type(order.pairing(x, y))}, {int})
                if size < SIXTY:
                    both = tuple(a + b for a, b in zip(x, y))
                    self.assertEqual(order.pairing(x, y), order.norm_of(both) - order.norm_of(x) - order.norm_of(y))
                    self.same(order.norm_of(product), order.norm_of(x) * order.norm_of(y))
                    self.same(order.conjugated(product),
                              order.multiplied(order.conjugated(y), order.conjugated(x)))
                    self.same(order.multiplied(x, back), tuple(order.norm_of(x) * part for part in order.one))
                    self.same(tuple(a + b for a, b in zip(x, back)),
                              tuple(order.trace_of(x) * part for part in order.one))
                self.same([order.multiplied(x, order.one), order.multiplied(order.one, x)], [x, x])
                self.assertIs(order.norm_of(x) > 0, x != (0, 0, 0, 0))
            self.same([order.norm_of((0, 0, 0, 0)), order.norm_of(order.one), order.trace_of(order.one)], [0, 1, 2])

    def test_raised(self):
        chance = random.Random(122)
        for order in ORDERS.values():
            x = random_element(chance, 3)
            power = order.one
            for many in range(8):
                self.same(order.raised(x, many), power)
                power = order.multiplied(power, x)
            self.assertEqual(order.norm_of(x) ** 60, Plain(order.prime).norm(Plain(order.prime).of(order.raised(x, 60))))
        self.same(ELEVEN.raised((0, 0, 0, 0), 0), (2, 0, -1, 0))

    def test_to_and_fro(self):
        chance = random.Random(123)
        for prime, order in ORDERS.items():
            plain = Plain(prime)
            for size in (3, 1000, SIXTY):
                x = random_element(chance, size)
                row = order.quaternion_of(x)
                self.assertEqual((type(row), {type(part) for part in row}), (tuple, {Ratio}))
                self.assertEqual(fractions(row), plain.of(x))
                self.same(order.element_at(row), x)
            for unit in range(4):
                row = tuple(Ratio(int(k == unit)) for k in range(4))
                self.assertEqual(plain.of(order.element_at(row)), fractions(row))
            # Not in the order: a part of an element of the basis, and a little more than such an element.
            for one in order.basis:
                half = tuple(part.over(2) for part in one)
                near = (one[0].plus(Ratio(1, 3)),) + one[1:]
                for row in (half, near, one[:3] + (one[3].plus(Ratio(1, 2)),)):
                    self.refused(InvalidOperation, order.element_at, row)
        long = ELEVEN.quaternion_of(ELEVEN.one)[0].times(SIXTY).times(SIXTY)
        zero = Ratio(0)
        self.same(ELEVEN.element_at((long, zero, zero, zero)), (2 * SIXTY ** 2, 0, -SIXTY ** 2, 0))

    def test_units(self):
        """[10.5]"""
        for prime, order in ORDERS.items():
            units = order.elements_of(1)
            self.assertIn(len(units), (UNITS[prime],) if prime in UNITS else (2, 4, 6))
            self.assertIn(order.one, units)
            for number in (1, 2, 3, 5, 10):
                found = order.elements_of(number)
                for x in found[:3]:
                    led = {order.multiplied(u, x) for u in units}
                    self.assertTrue(len(led) == len(units) and led <= set(found))
            self.same(order.elements_of(0), ((0, 0, 0, 0),))

    def test_of_norm(self):
        for prime, order in ORDERS.items():
            top = 12 if prime < 20 else 30
            if prime in (2, 3, 5, 7, 11, 13):
                # All elements of so small norms are among those of these integers.
                spread = range(-9, 10)
                known = {}
                tell = self.norms(order)
                for a in spread:
                    for b in spread:
                        for c in spread:
                            for d in spread:
                                norm = tell(a, b, c, d)
                                if norm <= 3:
                                    known.setdefault(norm, []).append((a, b, c, d))
                for norm in range(4):
                    self.same(order.elements_of(norm), tuple(sorted(known.get(norm, []))))
            for number in range(1, top):
                found = order.elements_of(number)
                self.assertEqual(list(found), sorted(set(found)))
                self.assertTrue(all(order.norm_of(x) == number for x in found))
                self.assertEqual({order.conjugated(x) for x in found}, set(found))
                self.assertEqual({tuple(-part for part in x) for x in found}, set(found))

    def norms(self, order):
        (a, b, c, d), (_, e, f, g), (_, _, h, i), (_, _, _, k) = order.pairings

        def tell(x, y, z, w):
            return (a * x * x + e * y * y + h * z * z + k * w * w) // 2 + x * (b * y + c * z + d * w) + y * (
                f * z + g * w) + i * z * w
        return tell

    def test_how_many(self):
        """Of classes with one lot alone: as many as the units times the sum of the divisors without the prime."""
        for prime in (2, 3, 5, 7, 13):
            units = len(ORDERS[prime].elements_of(1))
            for number in list(range(1, 25)) + [100, 121, 399, 400]:
                many = sum(d for d in range(1, number + 1) if number % d == 0 and d % prime)
                self.assertEqual(len(ORDERS[prime].elements_of(number)), units * many)

    def test_quotients(self):
        chance = random.Random(124)
        for order in ORDERS.values():
            for size in (3, 40, 10 ** 28):
                x, y, z = (random_element(chance, size) for _ in range(3))
                if any(y):
                    product = order.multiplied(z, y)
                    self.same(order.quotient(product, y), z)
                    self.same(order.quotient(y, order.one), y)
                    found = order.quotient(x, y)
                    back = order.multiplied(x, order.conjugated(y))
                    if found is None:
                        self.assertTrue(any(part % order.norm_of(y) for part in back))
                    else:
                        self.same(order.multiplied(found, y), x)
                    near = (product[0] + 1,) + product[1:]
                    found = order.quotient(near, y)
                    if found is not None:
                        self.same(order.multiplied(found, y), near)
            two = tuple(2 * part for part in order.one)
            self.same([order.quotient((0, 0, 0, 0), two), order.quotient(order.one, two), order.quotient(two, two)],
                      [(0, 0, 0, 0), None, order.one])


class Refusing(Case):
    def test_primes(self):
        for value in NO_PRIMES:
            for call in (Order, least_modulus, root_modulus):
                self.refused(InvalidPrime, call, value)
        for prime in PRIMES:
            if prime not in ONE_MODULO_EIGHT:
                self.refused(InvalidOperation, least_modulus, prime)
                self.refused(InvalidOperation, root_modulus, prime)

    def test_elements(self):
        x = (1, 2, 0, -1)
        for value in NO_ELEMENTS:
            for call in (ELEVEN.conjugated, ELEVEN.norm_of, ELEVEN.trace_of, ELEVEN.quaternion_of):
                self.refused(InvalidElement, call, value)
            for call in (ELEVEN.multiplied, ELEVEN.pairing, ELEVEN.quotient):
                self.refused(InvalidElement, call, value, x)
                self.refused(InvalidElement, call, x, value)
                self.refused(InvalidElement, call, value, (0, 0, 0, 0))
            self.refused(InvalidElement, ELEVEN.raised, value, 61)
        self.refused(InvalidOperation, ELEVEN.quotient, x, (0, 0, 0, 0))
        self.refused(InvalidOperation, ELEVEN.quotient, (0, 0, 0, 0), (0, 0, 0, 0))

    def test_counts(self):
        for value in NO_NUMBERS:
            self.refused_with(InvalidCount, "value", value, ELEVEN.elements_of, value)
        for value in NO_INTEGERS + (-1, 61, SIXTY):
            self.refused_with(InvalidCount, "value", value, ELEVEN.raised, (1, 2, 0, -1), value)

    def test_rows(self):
        one, zero = Ratio(1), Ratio(0)
        for value in NO_INTEGERS + (0, (one, zero, zero), (one, zero, zero, zero, zero), [one, zero, zero, zero],
                                    (1, 0, 0, 0), (one, zero, zero, 0), (one, zero, None, zero), ELEVEN, ELEVEN.basis,
                                    (one, zero, zero, True), ((one, zero, zero, zero),)):
            self.refused(InvalidElement, ELEVEN.element_at, value)


class Statements(Case):
    def test_what_is_not_true(self):
        """[10.6]"""
        order = ELEVEN
        for number in range(1, 30):
            found = order.elements_of(number)
            self.assertEqual(len(found), len({order.conjugated(x) for x in found}))
        two, three, six = (order.elements_of(number) for number in (2, 3, 6))
        self.assertTrue(set(six) - {order.multiplied(x, y) for x in two for y in three})
        units = order.elements_of(1)
        led = {order.multiplied(u, three[0]) for u in units} | {order.multiplied(three[0], u) for u in units}
        self.assertTrue(set(three) - led)
        one = ORDERS[97].one
        self.same(ORDERS[97].elements_of(1), tuple(sorted((one, tuple(-part for part in one)))))


if __name__ == "__main__":
    unittest.main()
