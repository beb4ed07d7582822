"""[5.1] to [5.5], [0.2], [0.12] to [0.14]: symbols, paths and their sums."""

import random
import unittest
from fractions import Fraction
from math import gcd

from levelroads.base.ratios import Ratio
from levelroads.base.tables import is_free, rank_of
from levelroads.errors import (
    InvalidCount, InvalidFraction, InvalidLevel, InvalidOperation, InvalidPair, InvalidSum, InvalidTable,
)
from levelroads.pair.pairs import count_pairs, pair_of, pairs
from levelroads.rim.groups import genus, matrix_of
from levelroads.rim.rims import count_rims, led_fraction, rim_of, rims
from levelroads.symbol.symbols import Space, Sum, is_closed_row, quotients, rims_of, steps_to
from support import (
    GREAT, NO_FRACTIONS, NO_INTEGERS, NO_LEVELS, NO_PAIRS, SIXTY, SIXTY_ONE, Case, is_echelon, random_fraction,
    random_member, random_ratio, random_sum, small_fractions, total,
)

ELEVEN, TWELVE, FIFTEEN = Space(11), Space(12), Space(15)
ZERO, ENDLESS = (0, 1), (1, 0)
ONE = Ratio(1)
LEVELS = list(range(1, 41)) + [45, 48, 49, 50, 54, 60, 64, 66, 72, 75, 81, 84, 90, 96, 97, 98, 99, 100]
SPACES = {level: Space(level) for level in LEVELS}
PRIME = 2 ** 61 - 1
NO_SUMS = NO_INTEGERS + (0, 5, "0", "1*(1, 2)", (ONE, ONE, ONE), [ELEVEN.zero], (ELEVEN.zero,), ELEVEN)
NO_SPACES = NO_INTEGERS + (0, 11, "space of level 11", [ELEVEN], (ELEVEN,), ELEVEN.zero)


def rank_modulo(rows):
    """The rank of rows of integers modulo a great prime number."""
    rest, rank = [list(row) for row in rows], 0
    while rest:
        row = rest.pop()
        place = next((k for k, entry in enumerate(row) if entry % PRIME), None)
        if place is not None:
            rank += 1
            back = pow(row[place], -1, PRIME)
            for at, other in enumerate(rest):
                if other[place] % PRIME:
                    many = other[place] * back % PRIME
                    rest[at] = [(entry - many * less) % PRIME for entry, less in zip(other, row)]
    return rank


def relations(level):
    """The tuples of pairs whose symbols add up to zero, by [0.12]."""
    found = []
    for c, d in pairs(level):
        found.append(((c, d), pair_of(level, d, -c)))
        found.append(((c, d), pair_of(level, d, -c - d), pair_of(level, -c - d, c)))
    return found


def plain_steps(fraction):
    """The fractions to which the quotients of a fraction lead, 0 and the endless one ahead of them."""
    tops, bottoms = [0, 1], [1, 0]
    for whole in quotients(fraction):
        tops.append(whole * tops[-1] + tops[-2])
        bottoms.append(whole * bottoms[-1] + bottoms[-2])
    return list(zip(tops, bottoms))


def random_matrix(chance, size=6):
    return random_member(chance, 1, size)


class Examples(Case):
    def test_examples(self):
        self.same(
            [ELEVEN.basis, len(TWELVE), FIFTEEN.basis, quotients((3, 7)), quotients((-1, 4)), quotients((1, 0)),
             steps_to(11, (3, 7)), steps_to(11, (0, 1))],
            [((0, 1), (1, 2), (1, 3)), 5, ((0, 1), (1, 2), (1, 3), (1, 4), (1, 5)), (0, 2, 3), (-1, 1, 3), (),
             ((0, 1), (1, 0), (1, 6), (1, 6)), ((0, 1), (1, 0))])
        self.same(
            [str(ELEVEN.symbol(1, 5)), str(ELEVEN.symbol(2, 3)), str(ELEVEN.symbol(1, 10)), str(FIFTEEN.symbol(2, 3)),
             str(TWELVE.symbol(2, 3))],
            ['-1*(1, 2)', '-1*(1, 3)', '0', '-1*(1, 2) + 1*(1, 3) + -1*(1, 4)', '-1*(1, 2) + 1*(1, 3)'])
        self.same(
            [str(ELEVEN.path(ZERO, (3, 7))), str(ELEVEN.path(ZERO, (-1, 4))), str(ELEVEN.path(ZERO, ENDLESS)),
             ELEVEN.path(ENDLESS, (3, 7)) == ELEVEN.path(ZERO, (3, 7)).minus(ELEVEN.symbol(0, 1))],
            ['-2*(1, 2)', '1*(1, 2) + -1*(1, 3)', '1*(0, 1)', True])
        self.same([rims_of(11, (0, 1)), rims_of(12, (1, 4)), rims_of(12, (2, 3)), rims_of(15, (3, 4))],
                  [((0, 1), (1, 11)), ((1, 4), (0, 1)), ((1, 3), (1, 2)), ((0, 1), (1, 3))])
        self.same(
            [ELEVEN.symbol(1, 2).is_closed, ELEVEN.symbol(0, 1).is_closed,
             str(ELEVEN.symbol(0, 1).boundary()[(1, 11)]), len(ELEVEN.closed_rows()), TWELVE.closed_rows(),
             str(ELEVEN.zero), str(ELEVEN)], [True, False, '1', 2, (), '0', 'space of level 11'])
        self.refused(InvalidOperation, ELEVEN.symbol, 11, 22)

    def test_told_steps(self):
        """The text below the examples."""
        steps = [(0, 1), (-1, 0), (2, 1), (-7, 2)]
        self.same(steps_to(11, (3, 7)), tuple(pair_of(11, c, d) for c, d in steps))
        self.assertTrue(ELEVEN.symbol(0, 1).plus(ELEVEN.symbol(-1, 0)).is_zero)
        self.same([pair_of(11, 2, 1), pair_of(11, -7, 2)], [(1, 6), (1, 6)])
        self.assertEqual(ELEVEN.symbol(1, 6), ELEVEN.symbol(1, 2).scaled(-1))


class Basis(Case):
    def test_relations(self):
        """[0.12]: the relations hold, each symbol is told by those of the basis ahead, and these are enough."""
        for level, space in SPACES.items():
            for told in relations(level):
                self.assertTrue(total([space.symbol(*pair) for pair in told], space.zero).is_zero)
            for pair in pairs(level):
                row = space.symbol(*pair).row
                if pair in space.basis:
                    place = space.basis.index(pair)
                    self.assertEqual([str(entry) for entry in row],
                                     [str(int(k == place)) for k in range(len(space))])
                else:
                    met = [one for one, entry in zip(space.basis, row) if entry.sign]
                    self.assertTrue(all(one < pair for one in met))

    def test_dimensions(self):
        for level, space in SPACES.items():
            self.assertEqual(list(space.basis), sorted(set(space.basis)))
            self.assertLessEqual(set(space.basis), set(pairs(level)))
            self.assertEqual(len(space.basis), 2 * genus(level) + count_rims(level) - 1)
            self.assertEqual(len(space.closed_rows()), 2 * genus(level))

    def test_dimensions_by_relations(self):
        for level in list(range(1, 31)) + [36, 42, 49, 60]:
            numbers = {pair: k for k, pair in enumerate(pairs(level))}
            rows = []
            for told in relations(level):
                row = [0] * len(numbers)
                for pair in told:
                    row[numbers[pair]] += 1
                rows.append(row)
            self.assertEqual(count_pairs(level) - rank_modulo(rows), len(Space(level).basis), level)

    def test_rows(self):
        chance = random.Random(71)
        for level in (1, 2, 11, 12, 36, 60):
            space = SPACES[level]
            for _ in range(5):
                told = random_sum(chance, space)
                row = tuple(random_ratio(chance) for _ in space.basis)
                self.assertEqual(space.sum_of(row).row, row)
                rest = told
                for pair, many in zip(space.basis, told.row):
                    rest = rest.minus(space.symbol(*pair).scaled(many))
                self.assertTrue(rest.is_zero)

    def test_level_one(self):
        for level in (1, 2, 3):
            space = Space(level)
            self.same([space.basis, str(space.zero), space.closed_rows()],
                      [() if level == 1 else ((0, 1),), "0", ()])
        one = Space(1)
        self.assertTrue(one.symbol(5, 7).is_zero and one.path((1, 3), ENDLESS).is_zero and one.zero.is_closed)
        self.same([one.zero.row, one.zero.boundary(), list(one), len(one), is_closed_row(one, ())], [(), {}, [], 0, True])


class Quotients(Case):
    def check(self, fraction):
        found = quotients(fraction)
        self.assertIs(type(found), tuple)
        self.assertTrue(all(type(whole) is int for whole in found))
        p, q = fraction
        value = Fraction(p, q)
        self.assertEqual(found[0], value.numerator // value.denominator)
        for index, whole in enumerate(found):
            self.assertEqual(whole, value.numerator // value.denominator)
            if index + 1 < len(found):
                value = 1 / (value - whole)
        self.assertEqual(value, found[-1])

    def test_quotients(self):
        for fraction in small_fractions(12)[1:]:
            self.check(fraction)
        chance = random.Random(72)
        for _ in range(100):
            self.check(random_fraction(chance, 10 ** 5))
            self.check(random_fraction(chance, GREAT))
        for fraction in ((GREAT, 1), (-GREAT, 1), (1, GREAT), (-1, GREAT), (GREAT - 1, GREAT), (1 - GREAT, GREAT)):
            self.check(fraction)
        self.same([quotients((5, 1)), quotients((-5, 1)), quotients((0, 1)), quotients((-1, GREAT)),
                   quotients((7, 3)), quotients((-7, 3)), quotients((1, 2)), quotients((1, 0))],
                  [(5,), (-5,), (0,), (-1, 1, GREAT - 1), (2, 3), (-3, 1, 2), (0, 2), ()])

    def test_steps(self):
        chance = random.Random(73)
        fractions = small_fractions(7)[1:] + [random_fraction(chance, GREAT) for _ in range(20)]
        for level in (1, 2, 9, 11, 12, 30, 97, 100):
            for fraction in fractions:
                bottoms = [1] + [q for _, q in plain_steps(fraction)[1:]]
                wanted = [pair_of(level, 0, 1)]
                for i in range(len(bottoms) - 2):
                    wanted.append(pair_of(level, (-1) ** (i + 1) * bottoms[i + 2], bottoms[i + 1]))
                self.same(steps_to(level, fraction), tuple(wanted))
            self.same(steps_to(level, ENDLESS), (pair_of(level, 0, 1),))

    def test_steps_add_up(self):
        chance = random.Random(74)
        for level in (1, 11, 12, 15, 36, 60):
            space = SPACES[level]
            for fraction in small_fractions(6) + [random_fraction(chance, GREAT) for _ in range(5)]:
                told = total([space.symbol(*pair) for pair in steps_to(level, fraction)], space.zero)
                self.assertEqual(space.path(ZERO, fraction), told)


class Paths(Case):
    def test_symbols_are_paths(self):
        """[0.13] for matrices of the determinant 1."""
        chance = random.Random(75)
        for level in (1, 2, 4, 9, 11, 12, 15, 25, 36, 37, 60, 97, 100):
            space = SPACES.get(level) or Space(level)
            for _ in range(30):
                a, b, c, d = random_matrix(chance)
                ends = led_fraction((a, b, c, d), ZERO), led_fraction((a, b, c, d), ENDLESS)
                self.assertEqual(space.path(*ends), space.symbol(c, d))
            self.assertEqual(space.path(ZERO, ENDLESS), space.symbol(0, 1))

    def test_paths_add_up(self):
        chance = random.Random(76)
        for level in (1, 11, 12, 30, 64):
            space = SPACES[level]
            fractions = small_fractions(3) + [random_fraction(chance, GREAT) for _ in range(6)]
            for _ in range(60):
                x, y, z = (chance.choice(fractions) for _ in range(3))
                self.assertEqual(space.path(x, y).plus(space.path(y, z)), space.path(x, z))
                self.assertEqual(space.path(x, y), space.path(y, x).scaled(-1))
                self.assertTrue(space.path(x, x).is_zero)

    def test_led_paths(self):
        chance = random.Random(77)
        for level in (1, 2, 6, 9, 11, 15, 36, 100):
            space = SPACES[level]
            for _ in range(25):
                member = random_member(chance, level, 6)
                x, y = (random_fraction(chance, 30) for _ in range(2))
                self.assertEqual(space.path(led_fraction(member, x), led_fraction(member, y)), space.path(x, y))

    def test_symbols_of_any_integers(self):
        chance = random.Random(78)
        for level in (1, 4, 11, 12, 90):
            space = SPACES[level]
            for _ in range(40):
                c, d = (chance.choice((chance.randint(-20, 20), chance.randint(-SIXTY, SIXTY))) for _ in range(2))
                if gcd(gcd(c, d), level) == 1:
                    self.assertEqual(space.symbol(c, d), space.symbol(*pair_of(level, c, d)))
                    self.assertEqual(space.symbol(c, d), space.symbol(-c, -d))
                else:
                    self.refused(InvalidOperation, space.symbol, c, d)


class Boundaries(Case):
    def test_rims_of(self):
        for level in LEVELS:
            for pair in pairs(level):
                a, b, c, d = matrix_of(level, pair)
                wanted = (rim_of(level, led_fraction((a, b, c, d), ZERO)),
                          rim_of(level, led_fraction((a, b, c, d), ENDLESS)))
                self.same(rims_of(level, pair), wanted)

    def test_boundaries_of_symbols(self):
        for level in (1, 2, 9, 11, 12, 24, 36, 49, 60, 100):
            space = SPACES[level]
            for pair in pairs(level):
                start, end = rims_of(level, pair)
                wanted = {} if start == end else {start: "-1", end: "1"}
                found = space.symbol(*pair).boundary()
                self.assertEqual({rim: str(many) for rim, many in found.items()}, wanted)
                self.assertEqual(list(found), sorted(found))
                self.assertIs(space.symbol(*pair).is_closed, start == end)

    def test_boundaries_of_sums(self):
        chance = random.Random(79)
        for level in (2, 11, 12, 30, 36, 60):
            space = SPACES[level]
            for _ in range(8):
                told = random_sum(chance, space)
                wanted = {}
                for pair, many in zip(space.basis, told.row):
                    start, end = rims_of(level, pair)
                    wanted[start] = wanted.get(start, 0) - Fraction(many.top, many.bottom)
                    wanted[end] = wanted.get(end, 0) + Fraction(many.top, many.bottom)
                found = told.boundary()
                self.assertTrue(all(type(many) is Ratio for many in found.values()))
                self.assertEqual({rim: Fraction(many.top, many.bottom) for rim, many in found.items()},
                                 {rim: many for rim, many in wanted.items() if many})
                self.assertEqual(list(found), sorted(found))
                self.assertLessEqual(set(found), set(rims(level)))
                adds = Ratio(0)
                for many in found.values():
                    adds = adds.plus(many)
                self.assertEqual(adds.sign, 0)
                self.assertIs(told.is_closed, not found)

    def test_closed_paths(self):
        """[5.4]"""
        for level in (1, 2, 9, 11, 12, 16, 36):
            space = SPACES[level]
            for x in small_fractions(4):
                for y in small_fractions(4)[::2]:
                    self.assertIs(space.path(x, y).is_closed, rim_of(level, x) == rim_of(level, y))
        for level in (11, 14, 15, 22, 23, 36):
            space = SPACES[level]
            own = [fraction for fraction in small_fractions(level + 3) if rim_of(level, fraction) == (0, 1)]
            rows = tuple(space.path(ZERO, fraction).row for fraction in own)[:240]
            self.assertEqual(rank_of(rows), 2 * genus(level))
            self.assertTrue(is_free(rows, space.closed_rows()))

    def test_closed_rows(self):
        for level, space in SPACES.items():
            rows = space.closed_rows()
            self.assertIs(type(rows), tuple)
            self.assertTrue(is_echelon(rows))
            for row in rows:
                self.assertTrue(space.sum_of(row).is_closed)
                self.assertIs(is_closed_row(space, row), True)
        self.same([TWELVE.closed_rows(), Space(1).closed_rows()], [(), ()])

    def test_judged_rows(self):
        chance = random.Random(80)
        for level in (11, 12, 22, 36):
            space = SPACES[level]
            zeros = space.zero.row
            self.assertIs(is_closed_row(space, zeros), True)
            for row in space.closed_rows():
                for place in range(len(row)):
                    near = row[:place] + (row[place].plus(1),) + row[place + 1:]
                    self.assertIs(is_closed_row(space, near), space.sum_of(near).is_closed)
                scaled = tuple(entry.times(random_ratio(chance, 9)) for entry in row[:1]) + row[1:]
                self.assertIs(is_closed_row(space, scaled), space.sum_of(scaled).is_closed)
                for value in (list(row), row[:-1], row + (ONE,), tuple(entry.top for entry in row), (row,), row[0],
                              row[:-1] + (None,), row[:-1] + (0,), row[:-1] + (True,), space.sum_of(row), {0: row}):
                    self.assertIs(is_closed_row(space, value), False)
            for value in NO_INTEGERS:
                self.assertIs(is_closed_row(space, value), False)
        self.assertIs(is_closed_row(ELEVEN, (ONE, ONE, ONE)), False)


class Sums(Case):
    def test_arithmetic(self):
        chance = random.Random(81)
        for level in (1, 2, 11, 15, 36, 60):
            space = SPACES[level]
            for _ in range(10):
                one, other, many = random_sum(chance, space), random_sum(chance, space), random_ratio(chance)
                rows = [[Fraction(entry.top, entry.bottom) for entry in told.row] for told in (one, other)]
                results = [one.plus(other), one.minus(other), one.scaled(many), one.scaled(-7), one.scaled(0)]
                wanted = [[a + b for a, b in zip(*rows)], [a - b for a, b in zip(*rows)],
                          [a * Fraction(many.top, many.bottom) for a in rows[0]], [a * -7 for a in rows[0]],
                          [Fraction(0) for _ in rows[0]]]
                for told, row in zip(results, wanted):
                    self.assertIs(type(told), Sum)
                    self.assertIs(type(told.row), tuple)
                    self.assertTrue(all(type(entry) is Ratio for entry in told.row))
                    self.assertEqual([Fraction(entry.top, entry.bottom) for entry in told.row], row)
                    self.assertIs(told.is_zero, not any(row))
                    self.same([told.level, told.space == space, str(told.space)],
                              [level, True, f"space of level {level}"])
                self.assertTrue(one.plus(other).minus(other) == one)

    def test_texts(self):
        rows = {("0", "0", "0"): "0", ("1", "0", "0"): "1*(0, 1)", ("0", "-2", "1/2"): "-2*(1, 2) + 1/2*(1, 3)",
                ("-1/3", "0", "-1"): "-1/3*(0, 1) + -1*(1, 3)"}
        for row, text in rows.items():
            self.same(str(ELEVEN.sum_of(tuple(Ratio.read(entry) for entry in row))), text)
        for level in (1, 2, 60, 100):
            self.same([str(SPACES[level]), str(SPACES[level].zero)], [f"space of level {level}", "0"])

    def test_equal(self):
        again = Space(11)
        self.assertTrue(ELEVEN == again and not ELEVEN != again and ELEVEN != TWELVE and not ELEVEN == TWELVE)
        self.assertTrue(ELEVEN.symbol(1, 2) == again.symbol(1, 2) and ELEVEN.symbol(1, 2) != again.symbol(1, 3))
        self.assertTrue(ELEVEN.symbol(1, 2) == ELEVEN.symbol(1, 9))
        self.assertFalse(ELEVEN.symbol(1, 2) != ELEVEN.symbol(1, 9))
        # Of unlike levels, though the rows are equal.
        first, second = Space(2).symbol(0, 1), Space(3).symbol(0, 1)
        self.assertEqual(first.row, second.row)
        self.assertTrue(first != second and not first == second)
        self.assertTrue(Space(1).zero != Space(2).zero)
        for value in NO_INTEGERS + (0, 11, "space of level 11", "0", ELEVEN.zero.row):
            for one in (ELEVEN, ELEVEN.zero):
                self.assertIs(one == value, False)
                self.assertIs(one != value, True)
        self.assertFalse(ELEVEN == ELEVEN.zero or ELEVEN.zero == ELEVEN)

    def test_iterated(self):
        for level in (1, 2, 11, 36, 60):
            space = SPACES[level]
            symbols = list(space)
            self.assertEqual(symbols, [space.symbol(*pair) for pair in space.basis])
            self.assertTrue(all(type(one) is Sum for one in symbols))
            self.assertEqual([list(space), len(space)], [symbols, len(symbols)])
        self.assertIn(ELEVEN.symbol(1, 2), ELEVEN)
        self.assertRaises(TypeError, iter, ELEVEN.zero)
        self.assertRaises(TypeError, list, ELEVEN.zero)

    def test_never_changed(self):
        """[0.2]"""
        space, row = Space(11), (Ratio(1, 2), Ratio(-3), Ratio(0))
        told = space.sum_of(row)
        found = told.boundary()
        found[(0, 1)] = Ratio(99)
        found.clear()
        self.assertEqual([str(many) for many in told.boundary().values()], ["-1/2", "1/2"])
        told.plus(told), told.minus(told), told.scaled(5)
        self.same([str(told), str(space.symbol(0, 1)), str(space.zero)], ["1/2*(0, 1) + -3*(1, 2)", "1*(0, 1)", "0"])
        for name in ("level", "basis", "zero"):
            self.assertRaises(AttributeError, setattr, space, name, 5)
        for name in ("level", "space", "row", "is_zero", "is_closed"):
            self.assertRaises(AttributeError, setattr, told, name, 5)

    def test_own_methods(self):
        for name in ("symbol", "path", "sum_of", "closed_rows", "__len__", "__iter__", "__eq__", "__str__", "level",
                     "basis", "zero"):
            self.assertIn(name, vars(Space))
        for name in ("plus", "minus", "scaled", "boundary", "__eq__", "__str__", "level", "space", "row", "is_zero",
                     "is_closed"):
            self.assertIn(name, vars(Sum))

    def test_long_ratios(self):
        told = ELEVEN.symbol(1, 2).scaled(SIXTY).scaled(Ratio(SIXTY, 2)).scaled(SIXTY)
        self.assertTrue(told.is_closed and told.row[1].top == SIXTY ** 3)
        self.assertEqual(ELEVEN.sum_of(told.row), told)
        self.assertTrue(told.minus(told).is_zero)


class Refusing(Case):
    def test_levels(self):
        for level in NO_LEVELS:
            self.refused(InvalidLevel, Space, level)
            for call in (steps_to, rims_of):
                self.refused(InvalidLevel, call, level, (0, 1))
                self.refused(InvalidLevel, call, level, "x")

    def test_fractions(self):
        for value in NO_FRACTIONS:
            self.refused(InvalidFraction, quotients, value)
            self.refused(InvalidFraction, steps_to, 12, value)
            self.refused(InvalidFraction, ELEVEN.path, value, ZERO)
            self.refused(InvalidFraction, ELEVEN.path, ZERO, value)
            self.refused(InvalidFraction, ELEVEN.path, value, value)

    def test_pairs(self):
        for value in NO_PAIRS:
            self.refused(InvalidPair, rims_of, 12, value)

    def test_symbols(self):
        for value in NO_INTEGERS:
            self.refused_with(InvalidCount, "value", value, ELEVEN.symbol, value, 1)
            self.refused_with(InvalidCount, "value", value, ELEVEN.symbol, 1, value)
            self.refused_with(InvalidCount, "value", value, ELEVEN.symbol, 0, value)
            self.refused_with(InvalidCount, "value", value, ELEVEN.symbol, value, SIXTY_ONE)
        for c, d in ((0, 0), (11, 22), (-11, 0), (0, 11), (-22, 121)):
            self.refused(InvalidOperation, ELEVEN.symbol, c, d)
        self.refused(InvalidOperation, TWELVE.symbol, 2, 4)
        self.refused(InvalidOperation, TWELVE.symbol, 3, -9)

    def test_rows(self):
        for value in NO_INTEGERS + (5, (ONE, ONE), (ONE,) * 4, [ONE] * 3, (ONE, ONE, 1), (1, 2, 3), (ONE, ONE, None),
                                    ((ONE, ONE, ONE),), ELEVEN.zero, (ONE, ONE, True), "000"):
            self.refused(InvalidTable, ELEVEN.sum_of, value)
        self.refused(InvalidTable, Space(1).sum_of, (ONE,))
        self.refused(InvalidTable, Space(1).sum_of, [])

    def test_sums(self):
        one, other = ELEVEN.symbol(1, 2), TWELVE.symbol(0, 1)
        for value in NO_SUMS:
            self.refused(InvalidSum, one.plus, value)
            self.refused(InvalidSum, one.minus, value)
        for call in (one.plus, one.minus):
            self.refused(InvalidOperation, call, other)
            self.refused(InvalidOperation, call, TWELVE.zero)
        for value in NO_INTEGERS + (one, ELEVEN, (ONE,), [ONE]):
            if not isinstance(value, Ratio):
                self.refused(InvalidOperation, one.scaled, value)

    def test_spaces(self):
        for value in NO_SPACES:
            self.refused(InvalidOperation, is_closed_row, value, ())
            self.refused(InvalidOperation, is_closed_row, value, None)


class Statements(Case):
    def test_what_is_not_true(self):
        """[5.5]"""
        self.same(str(FIFTEEN.symbol(2, 3)), "-1*(1, 2) + 1*(1, 3) + -1*(1, 4)")
        open_ones = [TWELVE.symbol(*pair) for pair in TWELVE.basis]
        self.assertTrue(any(not one.is_closed for one in open_ones))
        start, end = ELEVEN.symbol(0, 1), ELEVEN.symbol(1, 0)
        self.assertTrue(start.plus(end).is_closed and not start.is_closed and not end.is_closed)
        self.assertEqual(rim_of(11, (1, 4)), rim_of(13, (1, 4)))
        self.assertNotEqual(str(ELEVEN.path(ZERO, (1, 4))), str(Space(13).path(ZERO, (1, 4))))

    def test_turning_is_not_the_opposite(self):
        """[0.22]"""
        self.assertNotEqual(ELEVEN.symbol(-1, 2), ELEVEN.symbol(1, 2).scaled(-1))


if __name__ == "__main__":
    unittest.main()
