"""[6.1] to [6.9], [0.15], [0.16], [0.21], [0.22]: doings, turning and exchanging."""

import random
import unittest
from math import gcd

from levelroads.base.numbers import divisor_sum
from levelroads.base.ratios import Ratio
from levelroads.base.tables import determinant_of, polynomial_of, rank_of, table_of, table_product
from levelroads.doing import doings as module
from levelroads.doing.doings import (
    done, doing_table, exchange_signs, exchange_table, exchanged, is_staying, matrices_of, part_rows, turned,
)
from levelroads.errors import InvalidCount, InvalidOperation, InvalidSum, UnknownName
from levelroads.pair.pairs import led_pair, pairs
from levelroads.rim.groups import genus
from levelroads.rim.rims import count_rims
from levelroads.symbol.symbols import Space, Sum
from support import (
    GREAT, NO_INTEGERS, SIXTY, Case, is_echelon, mixed, random_fraction, random_ratio, random_sum, total,
)

ELEVEN, TWELVE, TWENTY_TWO, TWENTY_THREE = Space(11), Space(12), Space(22), Space(23)
ZERO, ENDLESS = (0, 1), (1, 0)
PARTS = ("all", "closed", "staying")
LEVELS = list(range(1, 28)) + [30, 33, 36, 37, 39, 42, 48, 49, 50]
SPACES = {level: Space(level) for level in LEVELS}
PRIMES = (2, 3, 5, 7, 11, 13, 17, 19, 23, 29, 31, 37, 41, 43, 47, 53, 59)
NO_SUMS = NO_INTEGERS + (0, 5, "0", [ELEVEN.zero], (ELEVEN.zero,), ELEVEN, ELEVEN.zero.row, "1*(1, 2)")
NO_SPACES = NO_INTEGERS + (0, 11, "space of level 11", [ELEVEN], (ELEVEN,), ELEVEN.zero)
NO_NUMBERS = NO_INTEGERS + (0, -1, 61, 10 ** 9, -60, SIXTY, ELEVEN, ELEVEN.zero)
NO_PARTS = tuple(value for value in NO_INTEGERS if not isinstance(value, Ratio)) + (
    0, 1, "open", "All", "all ", "stayin", "closed,staying", PARTS, ["all"], ("all",), {"all": 1}, ELEVEN)


def plain_matrices(number):
    """The matrices of a number by [6.1], over all lower rows."""
    found = []
    for d in range(1, number + 1):
        for c in range(d):
            for a in range(1, number + 1):
                if c == 0:
                    found += [(a, b, c, d) for b in range(a) if a * d == number]
                elif (a * d - number) % c == 0 and 0 <= (a * d - number) // c < a:
                    found.append((a, (a * d - number) // c, c, d))
    return tuple(sorted(found))


def plain_led(space, pair, number):
    """What T_n makes of a symbol, by [6.2]."""
    led = [led_pair(space.level, pair, matrix) for matrix in matrices_of(number)]
    return total([space.symbol(*one) for one in led if one is not None], space.zero)


def staying_sums(space):
    return [space.sum_of(row) for row in part_rows(space, part="staying")]


class Examples(Case):
    def test_examples(self):
        self.same([matrices_of(1), matrices_of(2), len(matrices_of(3)), len(matrices_of(13)), len(matrices_of(60))],
                  [((1, 0, 0, 1),), ((1, 0, 0, 2), (1, 0, 1, 2), (2, 0, 0, 1), (2, 1, 0, 1)), 7, 63, 860])
        some = ELEVEN.symbol(1, 2)
        self.same([done(some, 2) == some.scaled(Ratio(-2)), turned(some) == some,
                   exchanged(some) == some.scaled(Ratio(-1)), is_staying(some), is_staying(ELEVEN.symbol(1, 3)),
                   is_staying(ELEVEN.symbol(0, 1))], [True, True, True, True, False, False])
        self.same([str(doing_table(ELEVEN, 2)[0][0]), str(doing_table(ELEVEN, 2)[0][1]),
                   str(doing_table(ELEVEN, 2, part="staying")[0][0]), doing_table(TWELVE, 5, part="closed"),
                   len(doing_table(TWELVE, 5))], ['3', '1', '-2', (), 5])
        self.same([len(part_rows(TWENTY_THREE)), len(part_rows(TWENTY_THREE, part="closed")),
                   len(part_rows(TWENTY_THREE, part="staying")), exchange_signs(TWENTY_THREE),
                   exchange_signs(TWENTY_TWO), exchange_signs(TWELVE)], [5, 4, 2, (0, 2), (1, 1), (0, 0)])
        two = doing_table(TWENTY_THREE, 2, part="staying")
        self.same([str(two[0][0]), str(two[0][1]), str(two[1][0]), str(two[1][1])], ['-1', '1', '1', '0'])
        self.refused_with(UnknownName, "name", "open", doing_table, ELEVEN, 2, part="open")
        self.same([str(entry) for entry in polynomial_of(two)], ['-1', '1', '1'])
        self.same([str(done(one, 2)) for one in ELEVEN],
                  ["3*(0, 1) + 1*(1, 2)", "-2*(1, 2)", "-2*(1, 3)"])

    def test_constants(self):
        self.same([module.MAX_DOING, module.PARTS], [60, PARTS])


class Matrices(Case):
    def test_matrices(self):
        for number in range(1, 61):
            found = matrices_of(number)
            self.same(found, plain_matrices(number))
            for a, b, c, d in found:
                self.assertTrue(a * d - b * c == number and a > b >= 0 and d > c >= 0)

    def test_numbers(self):
        for value in NO_NUMBERS:
            self.refused_with(InvalidCount, "value", value, matrices_of, value)
            self.refused_with(InvalidCount, "value", value, done, ELEVEN.zero, value)
            self.refused_with(InvalidCount, "value", value, doing_table, ELEVEN, value)
            self.refused_with(InvalidCount, "value", value, doing_table, ELEVEN, value, part="open")


class Doings(Case):
    def test_symbols(self):
        for level in (1, 2, 4, 6, 9, 11, 12, 15, 22, 30, 36):
            space = SPACES[level]
            chosen = pairs(level) if level < 13 else pairs(level)[::5]
            for number in (1, 2, 3, 4, 5, 6, 7, 9, 11, 12) + ((25, 36, 59, 60) if level in (2, 11, 36) else ()):
                for pair in chosen:
                    self.assertEqual(done(space.symbol(*pair), number), plain_led(space, pair, number))

    def test_sums(self):
        chance = random.Random(91)
        for level in (2, 11, 12, 26, 30, 49):
            space = SPACES[level]
            for number in (1, 2, 5, 6, 13, 60):
                told = random_sum(chance, space)
                symbols = [done(one, number) for one in space]
                found = done(told, number)
                self.assertIs(type(found), Sum)
                self.assertEqual(found, mixed(told.row, symbols, space.zero))
                self.assertEqual(done(told.scaled(Ratio(2, 3)), number), found.scaled(Ratio(2, 3)))
        for space in SPACES.values():
            told = random_sum(chance, space)
            self.assertEqual(done(told, 1), told)
            self.assertTrue(done(space.zero, 7).is_zero)

    def test_all_levels(self):
        """Some symbols of the basis of each level, also where the number and the level have common divisors."""
        chance = random.Random(98)
        for level in range(1, 101):
            space = Space(level)
            if space.basis:
                for number in (2, 3, 4, 5, 6, 8, 11, 13) + tuple(chance.sample(range(14, 61), 2)):
                    pair = chance.choice(space.basis)
                    self.assertEqual(done(space.symbol(*pair), number), plain_led(space, pair, number))

    def test_great_sums(self):
        told = ELEVEN.symbol(1, 2).scaled(SIXTY).scaled(Ratio(SIXTY, 2))
        self.assertEqual(done(told, 2), told.scaled(-2))
        self.assertEqual(turned(told), told)
        self.assertEqual(exchanged(told), told.scaled(-1))

    def test_products(self):
        """[6.5], [0.16]"""
        chance = random.Random(92)
        for level in (1, 2, 4, 6, 9, 11, 12, 15, 22, 25, 30, 37):
            space = SPACES[level]
            told = random_sum(chance, space)
            for m in range(1, 9):
                for n in range(m, 60 // m + 1 if level in (6, 11) else 9):
                    both = done(done(told, n), m)
                    self.assertEqual(both, done(done(told, m), n))
                    if gcd(m, n) == 1 and m * n <= 60:
                        self.assertEqual(both, done(told, m * n))
            for prime in (2, 3, 5, 7):
                power = prime
                while power * prime <= 60:
                    wanted = done(told, power * prime)
                    if level % prime:
                        wanted = wanted.plus(done(told, power // prime).scaled(prime))
                    self.assertEqual(done(done(told, power), prime), wanted)
                    power *= prime

    def test_turned(self):
        chance = random.Random(93)
        for level, space in SPACES.items():
            for c, d in pairs(level)[::3]:
                self.assertEqual(turned(space.symbol(c, d)), space.symbol(-c, d))
            for _ in range(3):
                x, y = random_fraction(chance, 40), random_fraction(chance, GREAT)
                back = [(-p, q) if q else (1, 0) for p, q in (x, y)]
                self.assertEqual(turned(space.path(x, y)), space.path(*back))
                told = random_sum(chance, space)
                self.assertEqual(turned(turned(told)), told)
                for number in (2, 3, 10):
                    self.assertEqual(turned(done(told, number)), done(turned(told), number))

    def test_exchanged(self):
        chance = random.Random(94)
        for level, space in SPACES.items():
            self.assertEqual(exchanged(space.path(ZERO, ENDLESS)), space.path(ENDLESS, ZERO))
            for _ in range(4):
                x, y = random_fraction(chance, 40), random_fraction(chance, 10 ** 17)
                ends = []
                for p, q in (x, y):
                    shared = gcd(q, level * p) if p > 0 else -gcd(q, level * p)
                    ends.append((-q // shared, level * p // shared) if p else (1, 0))
                self.assertEqual(exchanged(space.path(x, y)), space.path(*ends))
                told = random_sum(chance, space)
                self.assertEqual(exchanged(exchanged(told)), told)
                self.assertEqual(exchanged(turned(told)), turned(exchanged(told)))
                for number in (2, 3, 5, 6, 7):
                    if gcd(number, level) == 1:
                        self.assertEqual(exchanged(done(told, number)), done(exchanged(told), number))

    def test_boundaries_stay_closed(self):
        chance = random.Random(95)
        for level in (11, 15, 22, 30, 36):
            space = SPACES[level]
            for rows, judge in ((part_rows(space, part="closed"), lambda one: one.is_closed),
                                (part_rows(space, part="staying"), is_staying)):
                told = mixed([random_ratio(chance) for _ in rows], [space.sum_of(row) for row in rows], space.zero)
                for led in [done(told, number) for number in (2, 3, 4, 11)] + [exchanged(told)]:
                    self.assertTrue(judge(led))
            closed = space.sum_of(part_rows(space, part="closed")[-1])
            self.assertTrue(turned(closed).is_closed)

    def test_staying(self):
        chance = random.Random(96)
        for space in SPACES.values():
            self.assertIs(is_staying(space.zero), True)
            for told in [random_sum(chance, space), *space] + staying_sums(space):
                closed, same = told.is_closed, turned(told) == told
                self.assertIs(is_staying(told), closed and same)
                both = told.plus(turned(told))
                self.assertIs(is_staying(both), both.is_closed)


class Parts(Case):
    def test_rows(self):
        for level, space in SPACES.items():
            sizes = []
            for part, judge in (("all", lambda one: True), ("closed", lambda one: one.is_closed),
                                ("staying", is_staying)):
                rows = part_rows(space, part=part)
                self.assertIs(type(rows), tuple)
                self.assertTrue(is_echelon(rows))
                self.assertTrue(all(judge(space.sum_of(row)) for row in rows))
                sizes.append(len(rows))
            g = genus(level)
            self.assertEqual(sizes, [2 * g + count_rims(level) - 1, 2 * g, g])
            self.assertEqual(part_rows(space), part_rows(space, part="all"))
            self.assertEqual(part_rows(space, part="closed"), space.closed_rows())
        self.same([part_rows(Space(1)), part_rows(TWELVE, part="closed"), part_rows(TWELVE, part="staying")],
                  [(), (), ()])

    def check(self, space, table, rows, call):
        """Whether a table is that of a call on the sums with some rows."""
        self.assertEqual((type(table), len(table)), (tuple, len(rows)))
        sums = [space.sum_of(row) for row in rows]
        for told, multiples in zip(sums, table):
            self.assertEqual((type(multiples), len(multiples)), (tuple, len(rows)))
            self.assertTrue(all(type(many) is Ratio for many in multiples))
            self.assertEqual(call(told), mixed(multiples, sums, space.zero))

    def test_tables(self):
        for level in (1, 2, 11, 12, 15, 22, 23, 26, 30, 36, 37, 39, 49):
            space = SPACES[level]
            for part in PARTS:
                rows = part_rows(space, part=part)
                for number in (1, 2, 3, 6, 11, 30, 60) if level < 30 else (2, 5):
                    table = doing_table(space, number, part=part)
                    self.check(space, table, rows, lambda told, n=number: done(told, n))
                self.check(space, exchange_table(space, part=part), rows, exchanged)
            self.assertEqual(doing_table(space, 2), doing_table(space, 2, part="all"))
            self.assertEqual(exchange_table(space), exchange_table(space, part="all"))

    def test_polynomials(self):
        """[6.7]"""
        for level in (1, 11, 14, 22, 23, 26, 30, 33, 36, 37, 39, 42, 48):
            space = SPACES[level]
            for number in (1, 2, 3, 4, 5, 6, 7, 11, 60):
                on_all, on_closed, on_staying = (
                    polynomial_of(doing_table(space, number, part=part)) for part in PARTS)
                self.assertTrue(all(entry.bottom == 1 for entry in on_all + on_closed + on_staying))
                square = [0] * (2 * len(on_staying) - 1)
                for k, one in enumerate(on_staying):
                    for at, other in enumerate(on_staying):
                        square[k + at] += one.top * other.top
                self.assertEqual([entry.top for entry in on_closed], square)

    def test_signs(self):
        for level, space in SPACES.items():
            found = exchange_signs(space)
            self.assertEqual((type(found), sum(found)), (tuple, genus(level)))
            table = exchange_table(space, part="staying")
            changes = []
            for many in (-1, 1):
                changes.append(tuple(tuple(entry.plus(many) if k == at else entry for at, entry in enumerate(row))
                                     for k, row in enumerate(table)))
            self.same(found, (len(table) - rank_of(changes[0]), len(table) - rank_of(changes[1])))

    def test_tables_commute(self):
        for level in (11, 22, 30, 37):
            space = SPACES[level]
            tables = [doing_table(space, number) for number in (2, 3, 4, 5, 6)]
            for one in tables:
                for other in tables:
                    self.assertEqual(table_product(one, other), table_product(other, one))


class Statements(Case):
    def test_from_zero_to_the_endless_fraction(self):
        """[6.8], [0.21]"""
        for level, space in SPACES.items():
            path = space.path(ZERO, ENDLESS)
            for number in (1, 2, 3, 4, 5, 7, 12, 35):
                if gcd(number, level) == 1:
                    self.assertTrue(path.scaled(divisor_sum(number)).minus(done(path, number)).is_closed)
        for prime in PRIMES + (61, 67, 71, 73, 79, 83, 89, 97):
            space = Space(prime)
            top = Ratio(prime - 1, 12).top
            for number in (2, 3, 4, 5, 6, 10):
                if number % prime:
                    table = doing_table(space, number, part="staying")
                    less = tuple(tuple(entry.minus(divisor_sum(number)) if k == at else entry
                                       for at, entry in enumerate(row)) for k, row in enumerate(table))
                    determinant = determinant_of(less)
                    self.assertEqual((determinant.bottom, determinant.top % top), (1, 0))

    def test_what_is_not_true(self):
        """[6.9], [0.22]"""
        told = ELEVEN.symbol(1, 2)
        self.assertNotEqual(done(done(told, 2), 2), done(told, 4))
        space = TWENTY_TWO
        self.assertTrue(any(exchanged(done(one, 2)) != done(exchanged(one), 2) for one in space))
        nine = SPACES[9]
        self.assertTrue(any(not done(one, 2).minus(one.scaled(3)).is_closed for one in nine))
        closed = [ELEVEN.sum_of(row) for row in ELEVEN.closed_rows()]
        self.assertTrue(any(turned(one) not in (one, one.scaled(-1)) for one in closed))


class Refusing(Case):
    def test_sums(self):
        for value in NO_SUMS:
            for call in (turned, exchanged, is_staying):
                self.refused(InvalidSum, call, value)
            self.refused(InvalidSum, done, value, 2)
            self.refused(InvalidSum, done, value, 0)
            self.refused(InvalidSum, done, value, None)

    def test_spaces(self):
        for value in NO_SPACES:
            for part in ("all", "open", None):
                self.refused(InvalidOperation, part_rows, value, part=part)
                self.refused(InvalidOperation, exchange_table, value, part=part)
                self.refused(InvalidOperation, doing_table, value, 2, part=part)
                self.refused(InvalidOperation, doing_table, value, 61, part=part)
            self.refused(InvalidOperation, exchange_signs, value)

    def test_parts(self):
        for value in NO_PARTS:
            self.refused_with(UnknownName, "name", value, part_rows, ELEVEN, part=value)
            self.refused_with(UnknownName, "name", value, exchange_table, ELEVEN, part=value)
            self.refused_with(UnknownName, "name", value, doing_table, ELEVEN, 2, part=value)
            self.refused_with(InvalidCount, "value", 61, doing_table, ELEVEN, 61, part=value)
        self.assertRaises(TypeError, part_rows, ELEVEN, "all")
        self.assertRaises(TypeError, doing_table, ELEVEN, 2, "all")

    def test_nothing_changed(self):
        told = ELEVEN.sum_of(table_of(((1, 2, 3),))[0])
        text = str(told)
        done(told, 5), turned(told), exchanged(told), is_staying(told), doing_table(ELEVEN, 5)
        self.same([str(told), str(ELEVEN.symbol(0, 1))], [text, "1*(0, 1)"])


if __name__ == "__main__":
    unittest.main()
