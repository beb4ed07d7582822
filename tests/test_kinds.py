"""[7.1] to [7.7], [0.19], [0.22]: kinds."""

import random
import unittest
from fractions import Fraction
from math import gcd

from levelroads.base.numbers import divisors
from levelroads.base.polys import is_irreducible, poly_factors, poly_product
from levelroads.base.ratios import Ratio
from levelroads.base.tables import echelon, polynomial_of, rank_of, restricted
from levelroads.doing.doings import done, doing_table, exchanged, part_rows
from levelroads.errors import InvalidCount, InvalidOperation, InvalidSum
from levelroads.kind import kinds as module
from levelroads.kind.kinds import Kind, doing_polynomial, is_kind_table, kind_of, kinds, shares_of
from levelroads.pair.pairs import count_pairs
from levelroads.rim.groups import genus
from levelroads.symbol.symbols import Space, Sum
from support import NO_INTEGERS, SIXTY, Case, is_echelon, mixed, random_ratio, random_sum, total

ELEVEN, TWELVE, TWENTY_THREE = Space(11), Space(12), Space(23)
LEVELS = list(range(1, 41)) + [43, 46, 49, 50, 57, 62, 66, 69, 73, 78, 81, 84, 87, 89, 90, 94, 95, 97, 98, 100]
SPACES = {level: Space(level) for level in LEVELS}
KINDS = {level: kinds(space) for level, space in SPACES.items()}
PRIMES = (2, 3, 5, 7, 11, 13, 17)
NO_SUMS = NO_INTEGERS + (0, 5, "0", [ELEVEN.zero], (ELEVEN.zero,), ELEVEN, ELEVEN.zero.row, KINDS[11][0])
NO_SPACES = NO_INTEGERS + (0, 11, "space of level 11", [ELEVEN], ELEVEN.zero, KINDS[11][0])
NO_NUMBERS = NO_INTEGERS + (0, -1, 61, 74, -60, SIXTY, ELEVEN)
# Dimension, degree and fold of each kind, as it is known from the levels of which it comes.
KNOWN = {
    10: [], 11: [(1, 1, 1)], 22: [(2, 1, 2)], 23: [(2, 2, 1)], 26: [(1, 1, 1), (1, 1, 1)], 28: [(2, 1, 2)],
    33: [(1, 1, 1), (2, 1, 2)], 36: [(1, 1, 1)], 37: [(1, 1, 1), (1, 1, 1)], 39: [(1, 1, 1), (2, 2, 1)],
    46: [(1, 1, 1), (4, 2, 2)], 66: [(1, 1, 1), (1, 1, 1), (1, 1, 1), (2, 1, 2), (4, 1, 4)],
    73: [(1, 1, 1), (2, 2, 1), (2, 2, 1)], 81: [(2, 2, 1), (2, 1, 2)], 97: [(3, 3, 1), (4, 4, 1)],
    98: [(1, 1, 1), (2, 2, 1), (2, 1, 2), (2, 1, 2)], 100: [(1, 1, 1), (2, 1, 2), (2, 1, 2), (2, 1, 2)],
}


def proper(level, numbers):
    return [number for number in numbers if gcd(number, level) == 1]


def power_of(poly, many):
    power = (1,)
    for _ in range(many):
        power = poly_product(power, poly)
    return power


def sums_of(kind, space):
    return [space.sum_of(row) for row in kind.rows]


def staying_sum(chance, space):
    rows = part_rows(space, part="staying")
    return mixed([random_ratio(chance) for _ in rows], [space.sum_of(row) for row in rows], space.zero)


def changes_of_sign(polys, x):
    values = [sum(entry * x ** k for k, entry in enumerate(poly)) for poly in polys]
    signs = [value > 0 for value in values if value]
    return sum(one != other for one, other in zip(signs, signs[1:]))


def count_real_roots(poly, low, high):
    """How many real roots above `low` and up to `high` a polynomial without repeated roots has, by Sturm."""
    chain = [[Fraction(entry) for entry in poly], [Fraction(k * entry) for k, entry in enumerate(poly)][1:]]
    while len(chain[-1]) > 1:
        rest, by = list(chain[-2]), chain[-1]
        while len(rest) >= len(by):
            many, shift = rest[-1] / by[-1], len(rest) - len(by)
            rest = [entry - (many * by[k - shift] if k >= shift else 0) for k, entry in enumerate(rest)][:-1]
        while rest and not rest[-1]:
            rest.pop()
        chain.append([-entry for entry in rest])
    return changes_of_sign(chain, low) - changes_of_sign(chain, high)


class Examples(Case):
    def test_examples(self):
        self.same([doing_polynomial(TWENTY_THREE, 2), doing_polynomial(Space(37), 2), doing_polynomial(Space(46), 3),
                   doing_polynomial(ELEVEN, 11), doing_polynomial(TWELVE, 5)],
                  [(-1, 1, 1), (0, 2, 1), (0, 25, 0, -10, 0, 1), (-1, 1), (1,)])
        one, two = kinds(Space(46))
        self.same([len(kinds(TWELVE)), str(one), str(two), (one.dimension, one.degree, one.fold),
                   (two.dimension, two.degree, two.fold)],
                  [0, 'kind of 1 at 46', 'kind of 4 at 46', (1, 1, 1), (4, 2, 2)])
        self.same([one.value_of(3), one.value_of(5), two.base(3), two.polynomial(3), two.base(13), two.is_line],
                  [0, 4, (-5, 0, 1), (25, 0, -10, 0, 1), (-3, 1), False])
        one, two = kinds(Space(37))
        self.same([one.value_of(2), two.value_of(2), one.value_of(7), two.value_of(7), two.value_of(11)],
                  [0, -2, -1, -1, -5])
        self.same([(kind.fold, kind.value_of(2), kind.value_of(5), kind.value_of(7)) for kind in kinds(Space(33))],
                  [(1, 1, -2, 4), (2, -2, 1, -2)])
        self.refused_with(InvalidCount, "value", 74, two.value_of, 74)
        self.same([kind.polynomial(2) for kind in (one, two)], [(0, 1), (2, 1)])

    def test_constant(self):
        self.same(module.MAX_PARTING, 17)


class Kinds(Case):
    def test_known(self):
        for level, wanted in KNOWN.items():
            self.same([(kind.dimension, kind.degree, kind.fold) for kind in KINDS[level]], wanted)

    def test_rows(self):
        """[7.2]: the rows of all kinds are free, and those of the staying half are mixes of them."""
        for level, space in SPACES.items():
            found = KINDS[level]
            self.assertIs(type(found), tuple)
            rows = tuple(row for kind in found for row in kind.rows)
            self.assertEqual(len(rows), genus(level))
            self.assertEqual(echelon(rows), part_rows(space, part="staying"))
            for kind in found:
                self.assertIs(type(kind), Kind)
                self.assertTrue(is_echelon(kind.rows))
                self.same([kind.level, kind.dimension, len(kind), kind.fold * kind.degree, kind.is_line],
                          [level, len(kind.rows), len(kind.rows), len(kind.rows), kind.degree == 1])
                self.same(str(kind), f"kind of {len(kind)} at {level}")
                self.assertIn(kind.fold, [len(divisors(level // home)) for home in divisors(level)])
        self.same([kinds(Space(level)) for level in (1, 10, 12, 25)], [(), (), (), ()])

    def test_order(self):
        """[7.5]"""
        for level, found in KINDS.items():
            keys = [(kind.dimension, tuple(kind.polynomial(prime) for prime in proper(level, PRIMES)))
                    for kind in found]
            self.assertEqual(keys, sorted(keys))
            self.assertEqual(len({key[1] for key in keys}), len(keys))

    def test_led_into_itself(self):
        for level in (11, 22, 23, 26, 33, 37, 38, 39, 46, 57, 66):
            space = SPACES.get(level) or Space(level)
            for kind in kinds(space):
                for number in proper(level, (1, 2, 3, 4, 5, 7, 9, 13)):
                    for told in sums_of(kind, space):
                        self.assertIn(done(told, number), kind)

    def test_no_lesser_parts(self):
        """[7.1], [7.4]: the doings make a field on a kind, and it has the degree as its dimension.

        A part of the kind is what some sum of doings leads the kind to. In a field this is all of it.
        """
        for level, space in SPACES.items():
            for kind in KINDS[level]:
                numbers = proper(level, range(1, min(60, count_pairs(level) // 6 + 2) + 1))
                tables = [self.table_on(space, kind, number) for number in (numbers if level < 63 else numbers[:16])]
                flat = tuple(tuple(entry for row in table for entry in row) for table in tables)
                self.assertEqual(rank_of(flat), kind.degree)
                bases = [kind.base(prime) for prime in proper(level, PRIMES)]
                self.assertEqual(max(len(base) - 1 for base in bases), kind.degree)
                self.assertTrue(all(is_irreducible(base) for base in bases))

    def table_on(self, space, kind, number):
        return restricted(doing_table(space, number), kind.rows)

    def test_polynomials(self):
        """[7.3]"""
        for level in LEVELS[:40] + [46, 57, 66, 78]:
            space = SPACES[level]
            for number in proper(level, (1, 2, 3, 4, 5, 7, 8, 10, 13, 23, 49, 60)):
                product = (1,)
                for kind in KINDS[level]:
                    poly = kind.polynomial(number)
                    wanted = polynomial_of(self.table_on(space, kind, number))
                    self.same(poly, tuple(entry.top for entry in wanted))
                    self.assertTrue(all(entry.bottom == 1 for entry in wanted))
                    base = kind.base(number)
                    self.assertIs(is_irreducible(base), True)
                    self.same(poly, power_of(base, kind.dimension // (len(base) - 1)))
                    self.assertEqual(kind.degree % (len(base) - 1), 0)
                    if kind.is_line:
                        value = kind.value_of(number)
                        self.same(base, (-value, 1))
                        for told in sums_of(kind, space):
                            self.assertEqual(done(told, number), told.scaled(value))
                    product = poly_product(product, poly)
                self.same(product, doing_polynomial(space, number))

    def test_polynomials_of_the_half(self):
        for level in (1, 11, 12, 22, 23, 27, 30, 34, 36, 37, 44, 46, 52, 60, 65, 66, 68, 75, 84, 90, 96):
            for number in (1, 2, 3, 4, 6, 8, 9, 11, 16, 25, 30, 36, 59, 60):
                wanted = polynomial_of(doing_table(Space(level), number, part="staying"))
                found = doing_polynomial(Space(level), number)
                self.same(found, tuple(entry.top for entry in wanted))
                self.assertEqual(len(found), genus(level) + 1)

    def test_real_roots(self):
        """[7.6]"""
        for level in LEVELS:
            for kind in KINDS[level]:
                for prime in proper(level, PRIMES):
                    base = kind.base(prime)
                    # The polynomial of the squares of the roots less 4 q: its values alternate at what is above 0.
                    even, odd = base[::2], base[1::2]
                    squares = [0] * len(base)
                    for k, one in enumerate(even):
                        for at, other in enumerate(even):
                            squares[k + at] += one * other
                    for k, one in enumerate(odd):
                        for at, other in enumerate(odd):
                            squares[k + at + 1] -= one * other
                    part = poly_factors(tuple(squares) if squares[-1] == 1 else tuple(-one for one in squares))[0][0]
                    self.assertEqual(count_real_roots(part, -1, 4 * prime), len(part) - 1)
                    self.assertEqual(count_real_roots(base, -10 ** 6, 10 ** 6), len(base) - 1)


class Shares(Case):
    def test_shares(self):
        chance = random.Random(101)
        for level, space in SPACES.items():
            for told in (staying_sum(chance, space), space.zero):
                shares = shares_of(told)
                self.assertEqual((type(shares), len(shares)), (tuple, len(KINDS[level])))
                self.assertEqual(total(shares, space.zero), told)
                for share, kind in zip(shares, KINDS[level]):
                    self.assertIs(type(share), Sum)
                    self.assertIn(share, kind)
        self.same([shares_of(TWELVE.zero), shares_of(Space(1).zero)], [(), ()])

    def test_kind_of(self):
        chance = random.Random(102)
        for level in (11, 22, 26, 37, 46, 57, 66, 78):
            space = SPACES[level]
            met = []
            for kind in KINDS[level]:
                told = mixed([random_ratio(chance).plus(10) for _ in kind.rows], sums_of(kind, space), space.zero)
                met.append(told)
                self.assertEqual(kind_of(told), kind)
                self.assertIs(type(kind_of(told)), Kind)
            if len(met) > 1:
                self.assertIs(kind_of(met[0].plus(met[-1])), None)
        self.assertEqual(kind_of(ELEVEN.symbol(1, 2).scaled(SIXTY).scaled(SIXTY)), KINDS[11][0])

    def test_contained(self):
        chance = random.Random(103)
        for level in (11, 22, 26, 33, 46, 57):
            space = SPACES[level]
            for kind in KINDS[level]:
                told = mixed([random_ratio(chance) for _ in kind.rows], sums_of(kind, space), space.zero)
                self.assertTrue(told in kind and space.zero in kind and told.scaled(Ratio(SIXTY, 2)) in kind)
                for one in [random_sum(chance, space), *space]:
                    is_in = rank_of(kind.rows + (one.row,)) == len(kind)
                    self.assertIs(one in kind, is_in)
                    self.assertIs(told.plus(one) in kind, is_in)
                for other in KINDS[level]:
                    if other != kind:
                        self.assertFalse(any(one in kind for one in sums_of(other, space)))
        # A sum of another level, though its row would do.
        one, two = Space(2).zero, KINDS[11][0]
        self.assertFalse(one in two)
        self.assertEqual(len(SPACES[11]), len(Space(9)))
        row = KINDS[11][0].rows[0]
        self.assertTrue(ELEVEN.sum_of(row) in two and Space(9).sum_of(row) not in two)
        for value in NO_SUMS:
            self.assertIs(value in KINDS[11][0], False)
            self.assertIs(value not in KINDS[11][0], True)

    def test_kind_tables(self):
        for level in (11, 22, 26, 37, 46, 57, 66):
            space = SPACES[level]
            every = KINDS[level]
            for kind in every:
                rows = kind.rows
                self.assertIs(is_kind_table(space, rows), True)
                twice = tuple(tuple(entry.times(2) for entry in row) for row in rows)
                changed = ((rows[0][:-1] + (rows[0][-1].plus(1),)),) + rows[1:]
                for value in (rows[:-1], rows + rows[:1], twice, changed, list(rows), [list(row) for row in rows],
                              rows[0], tuple(list(row) for row in rows), (), kind, space.sum_of(rows[0]),
                              tuple(tuple(str(entry) for entry in row) for row in rows)):
                    self.assertIs(is_kind_table(space, value), False)
                if len(rows) > 1:
                    self.assertIs(is_kind_table(space, rows[::-1]), False)
            if len(every) > 1:
                joined = echelon(tuple(row for kind in every for row in kind.rows))
                self.assertIs(is_kind_table(space, joined), False)
        for value in NO_INTEGERS:
            self.assertIs(is_kind_table(ELEVEN, value), False)
            self.assertIs(is_kind_table(TWELVE, value), False)
        self.assertIs(is_kind_table(TWENTY_THREE, KINDS[11][0].rows), False)


class Objects(Case):
    def test_equal(self):
        for level in (11, 37, 46):
            first, again = kinds(Space(level)), kinds(Space(level))
            for k, one in enumerate(first):
                for at, other in enumerate(again):
                    self.assertEqual((one == other, one != other), (k == at, k != at))
            for value in NO_INTEGERS + (first[0].rows, Space(level), str(first[0])):
                self.assertEqual((first[0] == value, first[0] != value), (False, True))
        # Of unlike levels, though the rows are equal.
        one, two = [(a, b) for a in KINDS for b in KINDS if a < b and KINDS[a] and KINDS[b]
                    and KINDS[a][0].rows == KINDS[b][0].rows][0]
        self.assertTrue(KINDS[one][0] != KINDS[two][0])

    def test_not_iterated(self):
        self.assertRaises(TypeError, iter, KINDS[46][1])
        self.assertRaises(TypeError, list, KINDS[11][0])

    def test_never_changed(self):
        for name in ("level", "rows", "dimension", "degree", "fold", "is_line"):
            self.assertRaises(AttributeError, setattr, KINDS[11][0], name, 5)
            self.assertIn(name, vars(Kind))
        for name in ("polynomial", "base", "value_of", "__eq__", "__contains__", "__len__", "__str__"):
            self.assertIn(name, vars(Kind))


class Refusing(Case):
    def test_spaces(self):
        for value in NO_SPACES:
            self.refused(InvalidOperation, kinds, value)
            self.refused(InvalidOperation, is_kind_table, value, ())
            self.refused(InvalidOperation, doing_polynomial, value, 2)
            self.refused(InvalidOperation, doing_polynomial, value, 61)

    def test_numbers(self):
        line, plane = KINDS[46]
        for value in NO_NUMBERS:
            self.refused_with(InvalidCount, "value", value, doing_polynomial, ELEVEN, value)
            for kind in (line, plane):
                for call in (kind.polynomial, kind.base, kind.value_of):
                    self.refused_with(InvalidCount, "value", value, call, value)
        for number in (2, 23, 46, 4, 60):
            for kind in (line, plane):
                for call in (kind.polynomial, kind.base, kind.value_of):
                    self.refused(InvalidOperation, call, number)
        self.refused(InvalidOperation, plane.value_of, 3)
        self.refused(InvalidOperation, KINDS[23][0].value_of, 1)
        self.same([KINDS[22][0].value_of(3), KINDS[22][0].polynomial(3)], [-1, (1, 2, 1)])

    def test_sums(self):
        for value in NO_SUMS:
            self.refused(InvalidSum, kind_of, value)
            self.refused(InvalidSum, shares_of, value)
        closed = ELEVEN.symbol(1, 3)
        self.assertTrue(closed.is_closed)
        for told in (closed, ELEVEN.symbol(0, 1), TWELVE.symbol(0, 1)):
            self.refused(InvalidOperation, kind_of, told)
            self.refused(InvalidOperation, shares_of, told)
        for space in (ELEVEN, TWELVE, Space(1)):
            self.refused(InvalidOperation, kind_of, space.zero)


class Statements(Case):
    def test_what_is_not_true(self):
        """[7.7], [0.22]"""
        self.assertEqual(KINDS[23][0].degree, 2)
        one, two = KINDS[37]
        self.assertEqual(one.value_of(7), two.value_of(7))
        self.assertEqual(len(KINDS[26]), 2)
        self.assertEqual([len(KINDS[level]) for level in (1, 2, 13)], [0, 0, 0])
        plane = KINDS[22][0]
        for number in proper(22, range(1, 60)):
            self.assertEqual(plane.base(number), (-plane.value_of(number), 1))
        # Two least parts that all doings lead into themselves, and two other ones: all lines of this plane are such.
        first, second = sums_of(plane, SPACES[22])
        for told in (first, second, first.plus(second), first.minus(second)):
            self.assertEqual(done(told, 3), told.scaled(-1))

    def test_exchanged(self):
        """Exchanging commutes with the doings of proper numbers: so it leads each kind into itself."""
        for level in (22, 26, 37, 46, 57):
            for kind in KINDS[level]:
                for told in sums_of(kind, SPACES[level]):
                    self.assertIn(exchanged(told), kind)


if __name__ == "__main__":
    unittest.main()
