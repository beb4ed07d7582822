"""[3.1] to [3.4], [0.8] to [0.10]: pairs."""

import random
import unittest
from math import gcd

from levelroads.base.numbers import count_units, prime_powers
from levelroads.pair import pairs as module
from levelroads.pair.pairs import (
    count_pairs, fixed_pairs, is_pair, led_pair, orbit_of, pair_at, pair_number, pair_of, pairs,
)
from levelroads.errors import InvalidCount, InvalidLevel, InvalidMatrix, InvalidOperation, InvalidPair
from support import NO_INTEGERS, NO_LEVELS, NO_MATRICES, SIXTY, SIXTY_ONE, Case, matrix_product

CALLS = {
    pairs: (), count_pairs: (), is_pair: ((0, 1),), pair_of: (0, 1), pair_number: ((0, 1),), pair_at: (0,),
    led_pair: ((0, 1), (1, 0, 0, 1)), orbit_of: ((0, 1), (1, 0, 0, 1)), fixed_pairs: ((1, 0, 0, 1),),
}


def least_tuple(level, c, d):
    """[0.9], word for word; None if the integers tell no pair."""
    if gcd(gcd(c, d), level) > 1:
        return None
    units = [u for u in range(level) if gcd(u, level) == 1]
    return min((u * c % level, u * d % level) for u in units)


def all_least(level):
    found = {least_tuple(level, c, d) for c in range(level) for d in range(level)}
    return tuple(sorted(found - {None}))


class Examples(Case):
    def test_examples(self):
        self.same(
            [pairs(1), pairs(2), pairs(4), count_pairs(11), count_pairs(12), count_pairs(100)],
            [((0, 0),), ((0, 1), (1, 0), (1, 1)), ((0, 1), (1, 0), (1, 1), (1, 2), (1, 3), (2, 1)), 12, 24, 180])
        self.same(
            [pair_of(11, 3, 7), pair_of(12, 10, 3), pair_of(12, -2, 1), pair_of(1, 5, 7), is_pair(12, (2, 3)),
             is_pair(12, (2, 7)), is_pair(12, (10, 3)), is_pair(11, (True, 5))],
            [(1, 6), (2, 3), (2, 5), (0, 0), True, False, False, False])
        self.same(
            [pair_number(12, (2, 1)), pair_at(12, 23), led_pair(11, (1, 5), (0, -1, 1, 0)),
             led_pair(11, (1, 5), (0, -1, 1, -1)), led_pair(12, (2, 3), (3, 0, 0, 4)),
             led_pair(12, (1, 0), (1, 1, 0, 2))],
            [13, (6, 1), (1, 2), (1, 1), None, (1, 1)])
        self.same(
            [orbit_of(11, (0, 1), (0, -1, 1, -1)), orbit_of(11, (1, 0), (1, 1, 0, 1))[:3],
             fixed_pairs(11, (0, -1, 1, 0)), fixed_pairs(13, (0, -1, 1, 0))],
            [((0, 1), (1, 10), (1, 0)), ((1, 0), (1, 1), (1, 2)), (), ((1, 5), (1, 8))])
        self.refused(InvalidOperation, pair_of, 12, 2, 4)

    def test_constant(self):
        self.same(module.MAX_LEVEL, 100)


class Telling(Case):
    def test_pairs_of_all_levels(self):
        for level in list(range(1, 41)) + [48, 60, 64, 72, 81, 90, 96, 97, 100]:
            self.same(pairs(level), all_least(level))

    def test_numbers_of_pairs(self):
        for level in range(1, 101):
            many = level
            for prime in prime_powers(level):
                many = many * (prime + 1) // prime
            self.same(count_pairs(level), many)
            told = pairs(level)
            self.assertEqual(len(told), many)
            self.assertEqual(list(told), sorted(set(told)))

    def test_pair_of_all_integers(self):
        for level in list(range(1, 31)) + [36, 50, 60, 100]:
            for c in range(-level - 2, level + 3, 1 if level < 20 else 7):
                for d in range(-level - 2, level + 3):
                    wanted = least_tuple(level, c, d)
                    if wanted is None:
                        self.refused(InvalidOperation, pair_of, level, c, d)
                    else:
                        self.same(pair_of(level, c, d), wanted)

    def test_long_integers(self):
        chance = random.Random(31)
        for _ in range(400):
            level = chance.randint(1, 100)
            c, d = chance.randint(-SIXTY, SIXTY), chance.randint(-SIXTY, SIXTY)
            if least_tuple(level, c, d) is not None:
                self.same(pair_of(level, c, d), least_tuple(level, c, d))
        self.same(pair_of(100, SIXTY, -SIXTY), least_tuple(100, SIXTY, -SIXTY))
        self.same([pair_of(1, SIXTY, 0), pair_of(1, 0, 0), pair_of(17, 0, -SIXTY)], [(0, 0), (0, 0), (0, 1)])

    def test_is_pair(self):
        for level in (1, 2, 6, 11, 12, 16, 30):
            told = set(all_least(level))
            for c in range(-2, level + 3):
                for d in range(-2, level + 3):
                    self.assertIs(is_pair(level, (c, d)), (c, d) in told)

    def test_values_near_pairs(self):
        for value in NO_INTEGERS + (
                0, 1, (0,), (0, 1, 0), [0, 1], [(0, 1)], ((0, 1),), (0, True), (False, 1), (True, True), (0, "1"),
                ("0", 1), (0, None), "01", (1, SIXTY), (0, SIXTY_ONE), (0, -1), (-1, 0), (0, 12), (12, 1), (2, 2),
                (0, 0), (0, 5), ((0,), 1), {0: 1}):
            if value != (1, 2):
                self.assertIs(is_pair(12, value), False)
                self.refused(InvalidPair, pair_number, 12, value)
                self.refused(InvalidPair, led_pair, 12, value, (1, 0, 0, 1))
                self.refused(InvalidPair, orbit_of, 12, value, (1, 0, 0, 1))
        self.same([is_pair(1, (0, 0)), is_pair(1, (0, 1)), is_pair(1, (False, 0)), is_pair(2, (0, 0))],
                  [True, False, False, False])

    def test_numbers_and_back(self):
        for level in list(range(1, 25)) + [60, 96, 97, 100]:
            for number, pair in enumerate(pairs(level)):
                self.same(pair_number(level, pair), number)
                self.same(pair_at(level, number), pair)
            for number in (-1, count_pairs(level), SIXTY, -SIXTY):
                self.refused_with(InvalidCount, "value", number, pair_at, level, number)


class Leading(Case):
    def test_all_matrices(self):
        chance = random.Random(32)
        entries = (0, 1, -1, 2, 3, -5, 6, 12, SIXTY, -SIXTY)
        for level in (1, 2, 3, 4, 6, 11, 12, 25, 30):
            for _ in range(40):
                matrix = tuple(chance.choice(entries) for _ in range(4))
                a, b, e, f = matrix
                led = {}
                for c, d in pairs(level):
                    led[c, d] = least_tuple(level, c * a + d * e, c * b + d * f)
                    self.same(led_pair(level, (c, d), matrix), led[c, d])
                self.same(fixed_pairs(level, matrix), tuple(pair for pair in pairs(level) if led[pair] == pair))
                if gcd(a * f - b * e, level) == 1:
                    self.assertEqual(sorted(led.values()), list(pairs(level)))
                    self.check_orbits(level, matrix, led)
                else:
                    for pair in pairs(level):
                        self.refused(InvalidOperation, orbit_of, level, pair, matrix)

    def check_orbits(self, level, matrix, led):
        for pair in pairs(level):
            orbit = orbit_of(level, pair, matrix)
            self.assertIs(type(orbit), tuple)
            self.assertEqual(orbit[0], pair)
            self.assertEqual(len(set(orbit)), len(orbit))
            self.assertEqual([led[one] for one in orbit], list(orbit[1:] + orbit[:1]))

    def test_products(self):
        chance = random.Random(33)
        for level in (1, 5, 8, 12, 21):
            for _ in range(40):
                one, other = (tuple(chance.randint(-6, 6) for _ in range(4)) for _ in range(2))
                for pair in pairs(level):
                    first = led_pair(level, pair, one)
                    if first is not None:
                        self.same(led_pair(level, pair, matrix_product(one, other)), led_pair(level, first, other))

    def test_two_matrices(self):
        for level in (1, 2, 7, 12, 20):
            for c, d in pairs(level):
                self.same(led_pair(level, (c, d), (0, -1, 1, 0)), pair_of(level, d, -c))
                self.same(led_pair(level, (c, d), (0, -1, 1, -1)), pair_of(level, d, -c - d))

    def test_determinant_zero(self):
        zero = (0, 0, 0, 0)
        self.same([led_pair(1, (0, 0), zero), orbit_of(1, (0, 0), zero), led_pair(7, (0, 1), zero),
                   fixed_pairs(7, zero), fixed_pairs(7, (0, 0, 0, 1)), led_pair(7, (1, 0), (3, 1, 0, 0))],
                  [(0, 0), ((0, 0),), None, (), ((0, 1),), (1, 5)])
        self.refused(InvalidOperation, orbit_of, 7, (0, 1), (0, 0, 0, 0))
        self.refused(InvalidOperation, orbit_of, 12, (0, 1), (3, 0, 0, 1))
        self.same(orbit_of(12, (0, 1), (5, 0, 0, 1)), ((0, 1),))


class Refusing(Case):
    def test_levels(self):
        for level in NO_LEVELS:
            for call, others in CALLS.items():
                self.refused(InvalidLevel, call, level, *others)
                self.refused(InvalidLevel, call, level, *("x" for _ in others))

    def test_integers(self):
        for value in NO_INTEGERS:
            self.refused_with(InvalidCount, "value", value, pair_of, 12, value, 1)
            self.refused_with(InvalidCount, "value", value, pair_of, 12, 1, value)
            self.refused_with(InvalidCount, "value", value, pair_of, 12, value, "second")
            self.refused_with(InvalidCount, "value", value, pair_of, 1, 0, value)
            self.refused_with(InvalidCount, "value", value, pair_at, 12, value)

    def test_matrices(self):
        for value in NO_MATRICES:
            self.refused(InvalidMatrix, led_pair, 12, (0, 1), value)
            self.refused(InvalidMatrix, orbit_of, 12, (0, 1), value)
            self.refused(InvalidMatrix, fixed_pairs, 12, value)
            self.refused(InvalidPair, led_pair, 12, (0, 2), value)
            self.refused(InvalidPair, orbit_of, 12, (0, 2), value)
        self.refused(InvalidPair, orbit_of, 12, (0, 2), (2, 0, 0, 2))


class Statements(Case):
    def test_first_integers(self):
        """[3.1]"""
        for level in range(2, 101):
            told = pairs(level)
            self.assertEqual([pair for pair in told if pair[0] == 0], [(0, 1)])
            self.assertTrue(all(level % pair[0] == 0 for pair in told[1:]))
            if prime_powers(level) == {level: 1}:
                self.assertEqual(told, ((0, 1),) + tuple((1, d) for d in range(level)))

    def test_same_pairs(self):
        """[3.2]"""
        for level in (1, 4, 6, 9, 12):
            told = [(c, d) for c in range(-1, level) for d in range(level + 1) if gcd(gcd(c, d), level) == 1]
            for c, d in told:
                for x, y in told:
                    self.assertEqual(pair_of(level, c, d) == pair_of(level, x, y), (c * y - d * x) % level == 0)

    def test_indices(self):
        """[3.4]"""
        for one in range(1, 101):
            for other in range(1, 100 // one + 1):
                if gcd(one, other) == 1:
                    self.assertEqual(count_pairs(one * other), count_pairs(one) * count_pairs(other))
        self.assertNotEqual(count_pairs(12), count_units(12) + 1)
        self.assertIn((2, 3), pairs(12))


if __name__ == "__main__":
    unittest.main()
