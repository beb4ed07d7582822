"""[4.1] to [4.4], [0.11]: fractions and rims."""

import random
import unittest
from fractions import Fraction
from math import gcd

from levelroads.base.numbers import count_units, divisors
from levelroads.errors import InvalidFraction, InvalidLevel, InvalidMatrix
from levelroads.pair.pairs import count_pairs, led_pair, pair_of
from levelroads.rim import rims as module
from levelroads.rim.rims import (
    are_same_rim, count_rims, is_fraction, is_matrix, is_rim_paper, keeper_of, led_fraction, rim_of, rim_paper, rims,
    width_of,
)
from support import (
    GREAT, IDENTITY, NO_FRACTIONS, NO_INTEGERS, NO_LEVELS, NO_MATRICES, NO_WHOLES, SIXTY, SIXTY_ONE, Case, in_group,
    random_member, small_fractions,
)
from support import matrix_product as product

CALLS = {rims: (), count_rims: (), rim_of: ((1, 2),), width_of: ((1, 2),), keeper_of: ((1, 2),),
         are_same_rim: ((1, 2), (1, 3)), rim_paper: ((1, 2), (1, 3)), is_rim_paper: ((1, 2), (1, 3), None)}


def matrix_to(fraction):
    """A matrix of the determinant 1 whose first column is a fraction."""
    (p, q), before, now = fraction, (1, 0), (0, 1)
    high, low = p, q
    while low:
        times = high // low
        high, low = low, high - times * low
        before, now = now, (before[0] - times * now[0], before[1] - times * now[1])
    sign = high
    return p, -sign * before[1], q, sign * before[0]


def class_of(level, fraction):
    """The pairs of the matrices that lead (1, 0) to what the group leads the fraction to: told by cosets, [4.6]."""
    _, _, c, d = matrix_to(fraction)
    found = [pair_of(level, c, d)]
    while len(found) == 1 or found[-1] != found[0]:
        found.append(led_pair(level, found[-1], (1, 1, 0, 1)))
    return frozenset(found)


class Examples(Case):
    def test_examples(self):
        self.same(
            [rims(6), rims(9), count_rims(36), rim_of(9, (1, 6)), rim_of(11, (3, 7)), rim_of(11, (1, 0)), rims(1)],
            [((0, 1), (1, 2), (1, 3), (1, 6)), ((0, 1), (1, 3), (1, 9), (2, 3)), 12, (2, 3), (0, 1), (1, 11),
             ((0, 1),)])
        self.same(
            [width_of(6, (0, 1)), width_of(6, (5, 8)), width_of(9, (2, 3)), keeper_of(6, (1, 2)), keeper_of(6, (1, 0))],
            [6, 3, 1, (-5, 3, -12, 7), (1, 1, 0, 1)])
        self.same(
            [are_same_rim(9, (1, 6), (2, 3)), is_rim_paper(9, (1, 6), (2, 3), (8, -1, 9, -1)),
             rim_paper(9, (1, 3), (2, 3)), led_fraction((8, -1, 9, -1), (1, 6))],
            [True, True, None, (2, 3)])
        self.same([led_fraction((2, 0, 0, 1), (1, 4)), led_fraction((0, -1, 11, 0), (0, 1))], [(1, 2), (1, 0)])
        self.refused(InvalidMatrix, led_fraction, (0, 1, 0, 0), (1, 4))
        self.same([width_of(6, rim) for rim in rims(6)], [6, 3, 2, 1])

    def test_constant(self):
        self.same(module.MAX_PART, 100000000000000000000)


class Fractions(Case):
    def test_fractions(self):
        for value in small_fractions(6) + [(GREAT, 1), (-GREAT, 1), (1, GREAT), (GREAT - 1, GREAT), (1 - GREAT, GREAT)]:
            self.assertIs(is_fraction(value), True)
        for value in NO_FRACTIONS + ((GREAT, GREAT), (GREAT, 0), (GREAT, 2)):
            self.assertIs(is_fraction(value), False, value)
        for top in range(-5, 6):
            for bottom in range(-5, 6):
                wanted = (top, bottom) == (1, 0) or (bottom > 0 and gcd(top, bottom) == 1)
                self.assertIs(is_fraction((top, bottom)), wanted)

    def test_matrices(self):
        long = 10 ** 3000
        for value in (IDENTITY, (0, 0, 0, 0), (-1, 2, -3, 4), (SIXTY_ONE, 0, 0, 1), (long, -long, long, 0)):
            self.assertIs(is_matrix(value), True)
        for value in NO_WHOLES + ((1, 2, 3), (1, 2, 3, 4, 5), [1, 0, 0, 1], ((1, 0), (0, 1)), "1001", 5):
            self.assertIs(is_matrix(value), False)
            self.assertIs(is_matrix((1, 0, 0, value)), value == 5)

    def test_led_fractions(self):
        chance = random.Random(41)
        for _ in range(400):
            matrix = tuple(chance.choice((chance.randint(-5, 5), chance.randint(-SIXTY, SIXTY))) for _ in range(4))
            a, b, c, d = matrix
            if a * d == b * c:
                continue
            for p, q in chance.sample(small_fractions(7), 8) + [(1, 0)]:
                bottom = c * p + d * q
                if bottom == 0:
                    wanted = (1, 0)
                else:
                    quotient = Fraction(a * p + b * q, bottom)
                    wanted = quotient.numerator, quotient.denominator
                self.same(led_fraction(matrix, (p, q)), wanted)

    def test_led_by_two(self):
        chance = random.Random(42)
        for _ in range(300):
            one, other = (tuple(chance.randint(-4, 4) for _ in range(4)) for _ in range(2))
            if one[0] * one[3] != one[1] * one[2] and other[0] * other[3] != other[1] * other[2]:
                for fraction in small_fractions(3):
                    by_both = led_fraction(one, led_fraction(other, fraction))
                    self.same(led_fraction(product(one, other), fraction), by_both)

    def test_determinants(self):
        for matrix in ((0, 0, 0, 0), (1, 1, 1, 1), (2, 4, 3, 6), (0, 1, 0, 0), (SIXTY, SIXTY, 1, 1)):
            self.refused(InvalidMatrix, led_fraction, matrix, (1, 2))
            self.refused(InvalidMatrix, led_fraction, matrix, "x")
        for matrix, fraction, wanted in (
                ((2, 0, 0, 1), (1, 2), (1, 1)), ((1, 0, 0, -1), (1, 2), (-1, 2)), ((1, 0, 0, 2), (2, 1), (1, 1)),
                ((-1, 0, 0, -1), (1, 0), (1, 0)), ((-1, 0, 0, 1), (1, 0), (1, 0)), ((2, 0, 4, 1), (1, 0), (1, 2)),
                ((0, 1, -1, 0), (0, 1), (1, 0)), ((3, 0, 0, 3), (-2, 5), (-2, 5))):
            self.same(led_fraction(matrix, fraction), wanted)

    def test_errors_of_led_fraction(self):
        for value in NO_MATRICES:
            self.refused(InvalidMatrix, led_fraction, value, (1, 2))
            self.refused(InvalidMatrix, led_fraction, value, None)
        for value in NO_FRACTIONS:
            self.refused(InvalidFraction, led_fraction, IDENTITY, value)


class Rims(Case):
    def test_rims_are_classes(self):
        for level in list(range(1, 31)) + [32, 36, 48, 49, 50, 64]:
            told = {}
            for fraction in small_fractions(level if level < 20 else 12) + list(rims(level)):
                told.setdefault(class_of(level, fraction), set()).add(rim_of(level, fraction))
            self.assertTrue(all(len(found) == 1 for found in told.values()), level)
            self.assertEqual(sorted(rim for found in told.values() for rim in found), list(rims(level)))
            # All pairs are met, so there are no further classes.
            self.assertEqual(sum(len(pairs) for pairs in told), count_pairs(level))
            for pairs, found in told.items():
                self.assertEqual(width_of(level, min(found)), len(pairs))

    def test_told_rims(self):
        """[4.2], word for word."""
        for level in (1, 2, 4, 12, 25, 36, 100):
            for p, q in small_fractions(15):
                d = gcd(q, level)
                shared = gcd(d, level // d)
                t = next(t for t in range(level + 2) if gcd(t, d) == 1 and (t - p * (q // d)) % shared == 0)
                self.same(rim_of(level, (p, q)), (t, d))

    def test_counts(self):
        for level in range(1, 101):
            told = rims(level)
            self.assertEqual(list(told), sorted(set(told)))
            self.same(count_rims(level), len(told))
            self.assertEqual(count_rims(level), sum(count_units(gcd(d, level // d)) for d in divisors(level)))
            self.assertEqual(sum(width_of(level, rim) for rim in told), count_pairs(level))
            for rim in told:
                self.same(rim_of(level, rim), rim)
                self.assertTrue(is_fraction(rim))

    def test_great_fractions(self):
        self.same([rim_of(100, (GREAT, 1)), rim_of(100, (1, GREAT)), width_of(100, (1, GREAT)),
                   width_of(97, (1, GREAT)), rim_of(64, (GREAT - 1, GREAT))], [(0, 1), (1, 100), 1, 97, (1, 64)])
        for p, q in ((GREAT - 1, GREAT), (-GREAT, GREAT - 1), (GREAT // 10 + 1, GREAT)):
            for level in (36, 48, 60, 81, 100):
                self.assertEqual(class_of(level, (p, q)), class_of(level, rim_of(level, (p, q))))

    def test_members_keep_rims(self):
        chance = random.Random(43)
        for level in (1, 4, 6, 9, 11, 36, 50, 100):
            for fraction in small_fractions(4):
                led = led_fraction(random_member(chance, level, 5), fraction)
                self.same(rim_of(level, led), rim_of(level, fraction))
                self.same(width_of(level, led), width_of(level, fraction))
                self.assertIs(are_same_rim(level, led, fraction), True)

    def test_same_rim(self):
        for level in (1, 2, 9, 12, 16):
            fractions = small_fractions(5)
            for one in fractions:
                for other in fractions[::3]:
                    self.assertIs(are_same_rim(level, one, other), class_of(level, one) == class_of(level, other))


class Papers(Case):
    def check(self, level, one, other):
        paper = rim_paper(level, one, other)
        if class_of(level, one) != class_of(level, other):
            self.assertIsNone(paper)
            return False
        self.assertIs(type(paper), tuple)
        self.assertTrue(all(type(entry) is int and abs(entry) <= SIXTY for entry in paper))
        self.assertTrue(in_group(level, paper))
        self.same(led_fraction(paper, one), other)
        self.assertIs(is_rim_paper(level, one, other, paper), True)
        return True

    def test_papers(self):
        for level in (1, 2, 3, 4, 6, 8, 9, 11, 12, 16, 18, 25, 36):
            fractions = small_fractions(5)
            for one in fractions:
                for other in fractions[::2]:
                    self.check(level, one, other)

    def test_great_papers(self):
        chance = random.Random(44)
        met = 0
        for level in (1, 2, 4, 9, 12, 36, 49, 64, 90, 97, 100):
            great = [(GREAT, 1), (-GREAT, 1), (1, GREAT), (GREAT - 1, GREAT), (1 - GREAT, GREAT), (1, 0), (0, 1)]
            while len(great) < 14:
                fraction = chance.randint(-GREAT, GREAT), level * chance.randint(1, GREAT // level)
                if is_fraction(fraction):
                    great.append(fraction)
            for one in great:
                met += sum(self.check(level, one, other) for other in great)
        self.assertGreater(met, 500)

    def test_judged(self):
        chance = random.Random(45)
        for level in (1, 4, 6, 9, 25):
            for one in small_fractions(3):
                member = random_member(chance, level, 6)
                other = led_fraction(member, one)
                keeper = keeper_of(level, one)
                for paper in (member, product(member, keeper), tuple(-entry for entry in member)):
                    self.assertIs(is_rim_paper(level, one, other, paper), True)
                a, b, c, d = member
                for near in ((a, b, c, d + 1), (a + 1, b, c, d), (-a, -b, c, d), (a, b, -c, -d), (a, b + 1, c, d),
                             (2 * a, 2 * b, 2 * c, 2 * d), product((1, 1, 0, 1), member)):
                    led = near[0] * one[0] + near[1] * one[1], near[2] * one[0] + near[3] * one[1]
                    is_led = led == other or led == (-other[0], -other[1])
                    self.assertIs(is_rim_paper(level, one, other, near), in_group(level, near) and is_led)
                for value in (list(member), (a, b, c), (a, b, c, d, 0), (a, b, c, str(d)), (a, b, c, None),
                              ((a, b), (c, d))):
                    self.assertIs(is_rim_paper(level, one, other, value), False)

    def test_not_in_the_group(self):
        zero, endless = (0, 1), (1, 0)
        self.same([is_rim_paper(2, zero, zero, (1, 0, 1, 1)), is_rim_paper(1, zero, zero, (1, 0, 1, 1)),
                   is_rim_paper(1, zero, endless, (0, 1, 1, 0)), is_rim_paper(1, zero, endless, (0, -1, 1, 0)),
                   is_rim_paper(1, zero, endless, (0, True, -1, 0)),
                   is_rim_paper(1, endless, endless, (True, 0, 0, True))],
                  [False, True, False, True, False, False])
        for value in NO_INTEGERS:
            self.assertIs(is_rim_paper(9, (1, 3), (2, 3), value), False)
            self.assertIs(is_rim_paper(9, (1, 6), (2, 3), value), False)

    def test_long_papers(self):
        long = 10 ** 3000
        for fraction, paper, wanted in (
                ((1, 0), (1, long, 0, 1), True), ((1, 0), (-1, long, 0, -1), True), ((0, 1), (1, 0, 7 * long, 1), True),
                ((0, 1), (1, 0, 7 * long + 1, 1), False), ((1, 0), (1, long, 0, long), False)):
            self.assertIs(is_rim_paper(7, fraction, fraction, paper), wanted)


class Keepers(Case):
    def test_keepers(self):
        for level in range(1, 40):
            for p, q in small_fractions(6) + [(GREAT - 1, GREAT), (-GREAT, 1)]:
                keeper = keeper_of(level, (p, q))
                h = level // gcd(level, q * q)
                self.same(keeper, (1 - p * q * h, p * p * h, -q * q * h, 1 + p * q * h))
                self.assertTrue(in_group(level, keeper))
                self.same(led_fraction(keeper, (p, q)), (p, q))
                self.same(width_of(level, (p, q)), h)

    def test_all_that_keep(self):
        """All small matrices of the group that keep a fraction are powers of the keeper, with one sign or the other."""
        for level in (1, 2, 4, 6):
            members = [(a, b, c, d) for c in range(-12, 13, level) for a in range(-9, 10) for b in range(-12, 13)
                       for d in range(-9, 10) if a * d - b * c == 1]
            for fraction in ((1, 0), (0, 1), (1, 2), (-1, 3)):
                powers, keeper = [IDENTITY], keeper_of(level, fraction)
                for _ in range(12):
                    powers.append(product(powers[-1], keeper))
                back = [(d, -b, -c, a) for a, b, c, d in powers]
                known = {tuple(sign * entry for entry in one) for one in powers + back for sign in (1, -1)}
                kept = {one for one in members if led_fraction(one, fraction) == fraction}
                self.assertLessEqual(kept, known)
                self.assertIn((-1, 0, 0, -1), kept)


class Refusing(Case):
    def test_levels(self):
        for level in NO_LEVELS:
            for call, others in CALLS.items():
                self.refused(InvalidLevel, call, level, *others)
                self.refused(InvalidLevel, call, level, *("x" for _ in others))

    def test_fractions(self):
        for value in NO_FRACTIONS:
            for call in (rim_of, width_of, keeper_of):
                self.refused(InvalidFraction, call, 12, value)
            for call, rest in ((are_same_rim, ()), (rim_paper, ()), (is_rim_paper, (None,))):
                self.refused(InvalidFraction, call, 12, value, (1, 2), *rest)
                self.refused(InvalidFraction, call, 12, (1, 2), value, *rest)
                self.refused(InvalidFraction, call, 12, value, value, *rest)


if __name__ == "__main__":
    unittest.main()
