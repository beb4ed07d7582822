"""[4.5] to [4.8], [0.8], [0.17]: the group of a level."""

import random
import unittest
from fractions import Fraction
from itertools import product as all_of
from math import gcd

from levelroads.errors import InvalidLevel, InvalidMatrix, InvalidPair
from levelroads.pair.pairs import count_pairs, fixed_pairs, is_pair, pair_of, pairs
from levelroads.rim.groups import (
    count_fourfold, count_threefold, genus, is_matrix_of, is_member, matrix_back, matrix_of, matrix_product, pair_round,
)
from levelroads.rim.rims import count_rims, led_fraction, rim_of, rims, width_of
from support import (
    HUNDRED, IDENTITY, NO_LEVELS, NO_MATRICES, NO_PAIRS, NO_WHOLES, SIXTY, SIXTY_ONE, Case, in_group, random_member,
)
from support import matrix_product as product

GENERA = {1: 0, 10: 0, 11: 1, 12: 0, 13: 0, 14: 1, 17: 1, 22: 2, 23: 2, 25: 0, 30: 3, 36: 1, 37: 2, 49: 1, 50: 2, 64: 3,
          71: 6, 72: 5, 81: 4, 89: 7, 90: 11, 96: 9, 97: 7, 100: 7}
CALLS = {is_member: (IDENTITY,), matrix_of: ((0, 1),), is_matrix_of: ((0, 1), IDENTITY), pair_round: ((0, 1),),
         count_fourfold: (), count_threefold: (), genus: ()}


def random_matrix(chance, size):
    """A matrix of the determinant 1."""
    return random_member(chance, 1, size)


def tells(level, pair, c, d):
    """Whether two integers tell a pair, by [3.2]."""
    x, y = pair
    return gcd(gcd(c, d), level) == 1 and (c * y - d * x) % level == 0


class Examples(Case):
    def test_examples(self):
        self.same([matrix_product((1, 1, 0, 1), (1, 0, 6, 1)), matrix_back((8, -1, 9, -1)),
                   is_member(9, (8, -1, 9, -1))], [(7, 1, 6, 1), (-1, 1, -9, 8), True])
        self.same([is_matrix_of(6, (2, 3), (1, 1, 2, 3)), is_matrix_of(6, (1, 0), (0, 1, -1, 0)),
                   pair_round(6, (2, 1)), len(pair_round(6, (1, 0)))], [True, True, ((2, 1), (2, 3), (2, 5)), 6])
        self.same([count_fourfold(13), count_threefold(13), count_fourfold(2),
                   [genus(11), genus(13), genus(37), genus(1), genus(36)]], [2, 2, 1, [1, 0, 2, 0, 1]])


class Members(Case):
    def test_members(self):
        chance = random.Random(61)
        for level in (1, 2, 6, 11, 36, 97, 100):
            for size in range(12):
                member = random_member(chance, level, size)
                self.assertIs(is_member(level, member), True)
                a, b, c, d = member
                for near in ((a, b, c, d + 1), (a + 1, b, c, d), (a, b, c + level, d), (a, b + 1, c, d), (-a, -b, c, d),
                             (a, b, -c, -d), (2 * a, 2 * b, 2 * c, 2 * d), (c, d, a, b), (b, a, d, c), (a, b, c, -d),
                             product((1, 0, 1, 1), member), product(member, (0, -1, 1, 0))):
                    self.assertIs(is_member(level, near), in_group(level, near), (level, near))

    def test_long_members(self):
        long = 10 ** 3000
        self.same([is_member(7, (1, long, 0, 1)), is_member(7, (1, 0, 7 * long, 1)), is_member(7, (1, 0, long, 1)),
                   is_member(7, (-1, long, 0, -1)), is_member(7, (1, long, 0, -1)), is_member(7, (1, long, 7, long)),
                   is_member(1, (1 + long * long, long, long, 1)), is_member(1, (HUNDRED, 1, -1, 0))],
                  [True, True, False, True, False, False, True, True])

    def test_no_members(self):
        for value in NO_WHOLES + (5, [1, 0, 0, 1], (1, 0, 0), (1, 0, 0, 1, 0), ((1, 0), (0, 1)), (True, 0, 0, True),
                                  (1, 0, False, 1), (1, None, 0, 1), "1001", (1, 0, 0, "1"), (0, 0, 0, 0)):
            self.assertIs(is_member(1, value), False)
        # The determinants 0, -1 and 2.
        self.same([is_member(1, (1, 1, 1, 1)), is_member(1, (1, 0, 0, -1)), is_member(1, (2, 0, 0, 1)),
                   is_member(2, (1, 0, 1, 1)), is_member(4, (1, 0, 2, 1)), is_member(4, (1, 0, -4, 1))],
                  [False, False, False, False, False, True])


class Products(Case):
    def test_products(self):
        chance = random.Random(62)
        for size in (1, 5, SIXTY):
            for _ in range(60):
                one, other = (tuple(chance.randint(-size, size) for _ in range(4)) for _ in range(2))
                self.same(matrix_product(one, other), product(one, other))
                self.same(matrix_product(one, IDENTITY), one)
                self.same(matrix_product(IDENTITY, one), one)
        self.same(matrix_product((SIXTY, 0, 0, 1), (SIXTY, SIXTY, 0, 1)), (SIXTY * SIXTY, SIXTY * SIXTY, 0, 1))

    def test_back(self):
        chance = random.Random(63)
        for size in range(25):
            matrix = random_matrix(chance, size)
            back = matrix_back(matrix)
            self.same(back, (matrix[3], -matrix[1], -matrix[2], matrix[0]))
            self.same([matrix_product(matrix, back), matrix_product(back, matrix)], [IDENTITY, IDENTITY])
        self.same(matrix_back((1, SIXTY, 0, 1)), (1, -SIXTY, 0, 1))

    def test_errors(self):
        for value in NO_MATRICES:
            self.refused(InvalidMatrix, matrix_product, value, IDENTITY)
            self.refused(InvalidMatrix, matrix_product, IDENTITY, value)
            self.refused(InvalidMatrix, matrix_product, value, value)
            self.refused(InvalidMatrix, matrix_back, value)
        for matrix in ((0, 0, 0, 0), (1, 1, 1, 1), (2, 0, 0, 1), (1, 0, 0, -1), (0, 1, 1, 0), (2, 0, 0, 2)):
            self.refused(InvalidMatrix, matrix_back, matrix)
            self.same(matrix_product(matrix, matrix), product(matrix, matrix))


class Told(Case):
    def test_matrices_of_pairs(self):
        for level in list(range(1, 37)) + [48, 49, 60, 64, 72, 84, 90, 96, 97, 100]:
            for pair in pairs(level):
                matrix = matrix_of(level, pair)
                self.assertIs(type(matrix), tuple)
                self.assertEqual((len(matrix), {type(entry) for entry in matrix}), (4, {int}))
                a, b, c, d = matrix
                self.assertEqual(a * d - b * c, 1)
                self.assertTrue(tells(level, pair, c, d))
                self.assertLess(max(abs(entry) for entry in matrix), SIXTY_ONE)
                self.assertIs(is_matrix_of(level, pair, matrix), True)

    def test_judged(self):
        chance = random.Random(64)
        for level in (1, 2, 4, 6, 9, 11, 12):
            for pair in pairs(level):
                for other in pairs(level):
                    matrix = product(random_member(chance, level, 4), matrix_of(level, other))
                    self.assertIs(is_matrix_of(level, pair, matrix), pair == other)
                a, b, c, d = matrix_of(level, pair)
                self.assertIs(is_matrix_of(level, pair, (-a, -b, -c, -d)), True)
                for near in ((a + 1, b, c, d), (a, b + 1, c, d), (-a, -b, c, d), (a, b, c + level, d), (a, -b, c, -d)):
                    e, f, g, h = near
                    is_one = e * h - f * g == 1 and tells(level, pair, g, h)
                    self.assertIs(is_matrix_of(level, pair, near), is_one)
                for value in NO_WHOLES + ([a, b, c, d], (a, b, c), (a, b, c, d, 0), ((a, b), (c, d)), (a, b, c, str(d))):
                    self.assertIs(is_matrix_of(level, pair, value), False)

    def test_long(self):
        long = 10 ** 3000
        self.same([is_matrix_of(7, (0, 1), (1, long, 0, 1)), is_matrix_of(7, (0, 1), (1, 0, 7 * long, 1)),
                   is_matrix_of(7, (0, 1), (1, 0, 7 * long + 1, 1)), is_matrix_of(7, (1, 3), (1, 0, 5, 1)),
                   is_matrix_of(7, (1, 3), (1, 0, 7 * long + 5, 1)), is_matrix_of(7, (0, 1), (2, 0, 0, 1))],
                  [True, True, False, True, True, False])
        self.same([is_matrix_of(1, (0, 0), (0, True, -1, 0)), is_matrix_of(1, (0, 0), (0, 1, -1, 0))], [False, True])

    def test_classes_of_matrices(self):
        """[4.5]: they differ by a factor of the group on their left exactly if they are of one pair."""
        chance = random.Random(65)
        for level in (1, 2, 3, 4, 6, 8, 12):
            matrices = [random_matrix(chance, 7) for _ in range(40)]
            for one in matrices:
                for other in matrices:
                    is_same = pair_of(level, one[2], one[3]) == pair_of(level, other[2], other[3])
                    self.assertEqual(is_member(level, product(one, matrix_back(other))), is_same)
                self.assertIs(is_matrix_of(level, pair_of(level, one[2], one[3]), one), True)


class Rounds(Case):
    def test_rounds(self):
        for level in list(range(1, 41)) + [48, 49, 64, 72, 96, 100]:
            met, ends = {}, []
            for pair in pairs(level):
                around = pair_round(level, pair)
                c, d = pair
                wanted = [pair]
                while len(wanted) == 1 or wanted[0] != wanted[-1]:
                    wanted.append(pair_of(level, c, d + len(wanted) * c))
                self.same(around, tuple(wanted[:-1]))
                fraction = led_fraction(matrix_of(level, pair), (1, 0))
                self.assertEqual(len(around), width_of(level, fraction))
                met.setdefault(frozenset(around), set()).add(rim_of(level, fraction))
                ends.append((pair, around))
            self.assertEqual(len(met), count_rims(level))
            self.assertTrue(all(len(found) == 1 for found in met.values()))
            self.assertEqual(sorted(rim for found in met.values() for rim in found), list(rims(level)))
            self.assertEqual(sum(len(around) for around in met), count_pairs(level))
            self.assertTrue(all(around[0] == pair and len(set(around)) == len(around) for pair, around in ends))


class Genus(Case):
    def test_counts(self):
        for level in range(1, 101):
            self.same(count_fourfold(level), len(fixed_pairs(level, (0, -1, 1, 0))))
            self.same(count_threefold(level), len(fixed_pairs(level, (0, -1, 1, -1))))
            self.same(count_fourfold(level), sum((x * x + 1) % level == 0 for x in range(level)))
            self.same(count_threefold(level), sum((x * x + x + 1) % level == 0 for x in range(level)))

    def test_genus(self):
        for level in range(1, 101):
            wanted = 1 + Fraction(count_pairs(level), 12) - Fraction(count_rims(level), 2)
            wanted -= Fraction(count_fourfold(level), 4) + Fraction(count_threefold(level), 3)
            found = genus(level)
            self.assertIs(type(found), int)
            self.assertEqual(found, wanted)
            self.assertGreaterEqual(found, 0)
        for level, wanted in GENERA.items():
            self.same(genus(level), wanted)
        self.assertEqual([level for level in range(1, 101) if genus(level) == 1],
                         [11, 14, 15, 17, 19, 20, 21, 24, 27, 32, 36, 49])

    def test_what_is_not_true(self):
        """[4.8]"""
        self.assertNotEqual(rim_of(9, (1, 3)), rim_of(9, (2, 3)))
        self.assertEqual([width_of(9, rim) for rim in ((1, 3), (1, 9))], [1, 1])
        self.assertEqual((genus(12), genus(24), genus(2), genus(4)), (0, 1, 0, 0))
        pairs_of_levels = [(one, other) for one, other in all_of(range(1, 40), repeat=2)
                           if count_pairs(one) == count_pairs(other) and count_rims(one) != count_rims(other)]
        self.assertIn((6, 11), pairs_of_levels)


class Refusing(Case):
    def test_levels(self):
        for level in NO_LEVELS:
            for call, others in CALLS.items():
                self.refused(InvalidLevel, call, level, *others)
                self.refused(InvalidLevel, call, level, *("x" for _ in others))

    def test_pairs(self):
        for value in NO_PAIRS:
            self.assertIs(is_pair(12, value), False)
            self.refused(InvalidPair, matrix_of, 12, value)
            self.refused(InvalidPair, pair_round, 12, value)
            self.refused(InvalidPair, is_matrix_of, 12, value, IDENTITY)
            self.refused(InvalidPair, is_matrix_of, 12, value, None)


if __name__ == "__main__":
    unittest.main()
