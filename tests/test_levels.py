"""[15.1] to [15.7], [0.19]: old and new."""

import random
import unittest
from math import gcd

from levelroads.base.numbers import divisors
from levelroads.base.polys import poly_product
from levelroads.base.ratios import Ratio
from levelroads.base.tables import echelon, kernel_of, table_product
from levelroads.doing.doings import done, is_staying, part_rows, turned
from levelroads.errors import InvalidCount, InvalidLevel, InvalidOperation, InvalidSum, TooMany
from levelroads.kind.kinds import Kind, kinds
from levelroads.old.levels import (
    copies_of, home_kind, home_of, is_new, lowered, new_dimension, new_rows, old_dimension)
from levelroads.rim.groups import genus
from levelroads.row.forms import form_rows, is_form_row
from levelroads.symbol.symbols import Space, Sum
from levelroads.trace.traces import new_trace
from support import NO_INTEGERS, NO_LEVELS, SIXTY, Case, is_echelon, mixed, random_fraction, random_ratio, random_sum
from test_traces import newness

SPACES = {level: Space(level) for level in range(1, 101)}
KINDS = {level: kinds(SPACES[level]) for level in range(1, 61)}
ELEVEN, TWELVE, FIFTEEN, TWENTY_TWO, TWENTY_THREE = (SPACES[level] for level in (11, 12, 15, 22, 23))
GRAND = TWENTY_TWO.path((0, 1), (1, 3))
NO_SUMS = NO_INTEGERS + (0, 11, "0", ELEVEN, (GRAND,), [GRAND], GRAND.row, KINDS[11][0])
NO_SPACES = NO_INTEGERS + (0, 11, "space of level 11", [ELEVEN], GRAND, KINDS[11][0])
NO_KINDS = NO_INTEGERS + (0, 11, "kind of 1 at 11", ELEVEN, GRAND, KINDS[11], [KINDS[11][0]], KINDS[11][0].rows)


def times_fraction(times, fraction):
    top, bottom = times * fraction[0], fraction[1]
    if bottom == 0:
        return 1, 0
    return top // gcd(top, bottom), bottom // gcd(top, bottom)


def all_lowerings(level):
    """All (M, t) of [15.1] with a lesser M."""
    return [(below, times) for below in divisors(level) if below < level for times in divisors(level // below)]


def staying_sum(chance, space):
    rows = part_rows(space, part="staying")
    return mixed([random_ratio(chance) for _ in rows], [space.sum_of(row) for row in rows], space.zero)


def plain_new_rows(level):
    """The new sums by all lowerings to all lesser levels, one sum of the staying half after the other."""
    space = SPACES[level]
    rows = part_rows(space, part="staying")
    table = []
    for row in rows:
        told = space.sum_of(row)
        table.append(tuple(entry for below, times in all_lowerings(level)
                           for entry in lowered(told, SPACES[below], times).row))
    return echelon(table_product(kernel_of(tuple(table)), rows)) if rows else ()


class Examples(Case):
    def test_examples(self):
        self.same([new_dimension(11), new_dimension(22), new_dimension(33), new_dimension(37), new_dimension(44),
                   old_dimension(44), new_dimension(1)], [1, 0, 1, 2, 1, 3, 0])
        self.same([lowered(GRAND, ELEVEN, 1) == ELEVEN.path((0, 1), (1, 3)),
                   lowered(GRAND, ELEVEN, 2) == ELEVEN.path((0, 1), (2, 3)), is_new(GRAND)], [True, True, False])
        self.same([new_rows(TWENTY_TWO), len(new_rows(TWENTY_THREE)), len(new_rows(FIFTEEN)), new_rows(TWELVE)],
                  [(), 2, 1, ()])
        both, alone = kinds(TWENTY_TWO)[0], kinds(ELEVEN)[0]
        self.same([len(kinds(TWENTY_TWO)), home_of(both), copies_of(both), home_kind(both).dimension, home_of(alone),
                   copies_of(alone)], [1, 11, 2, 1, 11, 1])
        self.refused(InvalidOperation, lowered, GRAND, ELEVEN, 3)


class Lowering(Case):
    def test_paths(self):
        """[15.1]"""
        chance = random.Random(181)
        for level in list(range(1, 37)) + [44, 48, 49, 60, 72, 90, 96, 97, 100]:
            for below in divisors(level):
                for times in divisors(level // below):
                    for _ in range(2):
                        one, other = random_fraction(chance, 40), random_fraction(chance, 10 ** 6)
                        found = lowered(SPACES[level].path(one, other), SPACES[below], times)
                        wanted = SPACES[below].path(times_fraction(times, one), times_fraction(times, other))
                        self.assertEqual((type(found), found.level, found), (Sum, below, wanted))
                    told = SPACES[level].path((1, 0), (0, 1))
                    self.assertEqual(lowered(told, SPACES[below], times), SPACES[below].path((1, 0), (0, 1)))

    def test_sums(self):
        chance = random.Random(182)
        for level in (1, 2, 12, 22, 30, 33, 36, 44, 60, 100):
            space = SPACES[level]
            for below, times in all_lowerings(level) + [(level, 1)]:
                one, other = random_sum(chance, space), random_sum(chance, space)
                many = random_ratio(chance)
                found = lowered(one.plus(other.scaled(many)), SPACES[below], times)
                parts = lowered(one, SPACES[below], times), lowered(other, SPACES[below], times)
                self.assertEqual(found, parts[0].plus(parts[1].scaled(many)))
            self.assertEqual(lowered(one, space, 1), one)
        long = TWENTY_TWO.symbol(1, 3).scaled(SIXTY).scaled(SIXTY)
        self.assertEqual(lowered(long, ELEVEN, 2),
                         lowered(TWENTY_TWO.symbol(1, 3), ELEVEN, 2).scaled(SIXTY).scaled(SIXTY))

    def test_twice(self):
        """[15.1]: by t and then by u is by t u."""
        chance = random.Random(183)
        for level in (12, 24, 30, 36, 44, 60, 66, 72, 88, 96):
            told = random_sum(chance, SPACES[level])
            for middle, t in all_lowerings(level):
                for below, u in all_lowerings(middle)[:6]:
                    twice = lowered(lowered(told, SPACES[middle], t), SPACES[below], u)
                    self.assertEqual(twice, lowered(told, SPACES[below], t * u))

    def test_beside_others(self):
        """[15.2]"""
        chance = random.Random(184)
        for level in (22, 26, 33, 36, 44, 45, 50, 60):
            space = SPACES[level]
            for below, times in all_lowerings(level):
                told = random_sum(chance, space)
                for number in (3, 5, 7, 13):
                    if gcd(level, number) == 1:
                        self.assertEqual(lowered(done(told, number), SPACES[below], times),
                                         done(lowered(told, SPACES[below], times), number))
                self.assertEqual(lowered(turned(told), SPACES[below], times),
                                 turned(lowered(told, SPACES[below], times)))
                closed = space.sum_of(space.closed_rows()[-1])
                self.assertIs(lowered(closed, SPACES[below], times).is_closed, True)
                self.assertIs(is_staying(lowered(staying_sum(chance, space), SPACES[below], times)), True)

    def test_refused(self):
        for value in NO_SUMS:
            self.refused(InvalidSum, lowered, value, ELEVEN, 1)
            self.refused(InvalidSum, lowered, value, None, 0)
            self.refused(InvalidSum, is_new, value)
        for value in NO_SPACES:
            self.refused(InvalidOperation, lowered, GRAND, value, 1)
            self.refused(InvalidOperation, lowered, GRAND, value, 0)
            self.refused(InvalidOperation, new_rows, value)
        for value in NO_INTEGERS + (0, -1, 101, SIXTY):
            self.refused_with(InvalidCount, "value", value, lowered, GRAND, ELEVEN, value)
            # Ahead of levels that do not divide.
            self.refused_with(InvalidCount, "value", value, lowered, GRAND, TWELVE, value)
        for space, times in ((TWELVE, 1), (SPACES[44], 1), (SPACES[100], 100), (ELEVEN, 3), (ELEVEN, 4), (ELEVEN, 22),
                             (TWENTY_TWO, 2), (SPACES[2], 2), (SPACES[1], 44), (SPACES[1], 100)):
            self.refused(InvalidOperation, lowered, GRAND, space, times)
        for times in (1, 2, 11, 22):
            self.assertEqual(lowered(GRAND, SPACES[1], times), SPACES[1].zero)


class New(Case):
    def test_dimensions(self):
        """[15.3], [15.4]"""
        for level in range(1, 101):
            found = new_dimension(level)
            self.same(found, sum(newness(level // below) * genus(below) for below in divisors(level)))
            self.same([found, old_dimension(level)], [new_trace(level, 1), genus(level) - found])
            self.assertTrue(0 <= found <= genus(level))
            self.assertEqual(genus(level), sum(new_dimension(below) * len(divisors(level // below))
                                               for below in divisors(level)))

    def test_rows(self):
        for level in range(1, 61):
            space = SPACES[level]
            found = new_rows(space)
            self.assertEqual((type(found), len(found)), (tuple, new_dimension(level)))
            self.assertTrue(is_echelon(found))
            self.assertTrue(all(type(entry) is Ratio for row in found for entry in row))
            self.assertEqual(found, plain_new_rows(level))
            for row in found:
                told = space.sum_of(row)
                self.assertIs(is_new(told), True)
                for below, times in all_lowerings(level):
                    self.assertIs(lowered(told, SPACES[below], times).is_zero, True)

    def test_is_new(self):
        chance = random.Random(185)
        for level in (1, 11, 12, 22, 23, 30, 33, 37, 44, 46, 57, 60, 62, 66, 75, 81, 90, 98, 100):
            space = SPACES[level]
            for told in (staying_sum(chance, space), random_sum(chance, space), space.zero):
                lower = [lowered(told, SPACES[below], times).is_zero for below, times in all_lowerings(level)]
                self.assertIs(is_new(told), is_staying(told) and all(lower))
            for kind in kinds(space):
                told = mixed([random_ratio(chance).plus(20) for _ in kind.rows],
                             [space.sum_of(row) for row in kind.rows], space.zero)
                lower = [lowered(told, SPACES[below], times).is_zero for below, times in all_lowerings(level)]
                self.assertIs(is_new(told), all(lower))
        # Closed, and led to zero by all lowerings, but not staying.
        self.assertIs(is_new(ELEVEN.symbol(1, 3)), False)
        self.assertIs(is_new(ELEVEN.symbol(1, 2)), True)

    def test_refused(self):
        for level in range(61, 101):
            self.refused_with(TooMany, "limit", 60, new_rows, SPACES[level])
        for level in NO_LEVELS:
            self.refused(InvalidLevel, new_dimension, level)
            self.refused(InvalidLevel, old_dimension, level)


class Homes(Case):
    def test_homes(self):
        """[15.5], [0.19]"""
        for level, found in KINDS.items():
            met = []
            for kind in found:
                home, copies, first = home_of(kind), copies_of(kind), home_kind(kind)
                self.same([type(home), copies, type(first), first.level, level % home],
                          [int, len(divisors(level // home)), Kind, home, 0])
                self.same([kind.dimension, kind.degree, kind.fold], [copies * first.dimension, first.degree, copies])
                self.assertIn(first, KINDS[home])
                self.assertTrue(all(is_new(SPACES[home].sum_of(row)) for row in first.rows))
                self.assertNotIn(first, met)
                met.append(first)
                self.same([home_of(first), copies_of(first), home_kind(first) == first], [home, 1, True])
                for number in (1, 2, 3, 4, 5, 7, 13, 60):
                    if gcd(level, number) == 1:
                        power = (1,)
                        for _ in range(copies):
                            power = poly_product(power, first.polynomial(number))
                        self.same(kind.polynomial(number), power)
            # Each new kind of a divisor is met once.
            wanted = [one for below in divisors(level) for one in KINDS[below]
                      if all(is_new(SPACES[below].sum_of(row)) for row in one.rows)]
            self.assertEqual(len(wanted), len(met))
            self.assertTrue(all(one in met for one in wanted))

    def test_by_all_lowerings(self):
        """Just at the home some lowering leads some sum to a new sum other than zero, and all lead into one kind."""
        for level in (11, 22, 26, 28, 30, 33, 38, 42, 44, 45, 46, 50, 54, 56, 57, 58, 60):
            for kind in KINDS[level]:
                home, first = home_of(kind), home_kind(kind)
                for below in divisors(level):
                    is_met = False
                    for times in divisors(level // below):
                        for row in kind.rows:
                            found = lowered(SPACES[level].sum_of(row), SPACES[below], times)
                            is_met = is_met or (is_new(found) and not found.is_zero)
                            if below == home:
                                self.assertIn(found, first)
                    self.assertIs(is_met, below == home)

    def test_refused(self):
        great = [kind for level in (61, 66, 88, 100) for kind in kinds(SPACES[level])]
        for call in (home_of, copies_of, home_kind):
            for value in NO_KINDS:
                self.refused(InvalidOperation, call, value)
            for kind in great:
                self.refused_with(TooMany, "limit", 60, call, kind)

    def test_rows_of_divisors(self):
        """[15.6]"""
        for level in (22, 33, 44, 45, 46, 60, 66, 88, 98):
            for below in divisors(level):
                for times in divisors(level // below):
                    for row in form_rows(SPACES[below], 60):
                        spread = tuple(row[m // times - 1] if m % times == 0 else Ratio(0) for m in range(1, 61))
                        self.assertIs(is_form_row(SPACES[level], spread), True)


class Statements(Case):
    def test_what_is_not_true(self):
        """[15.7]"""
        told = TWENTY_TWO.symbol(1, 3)
        self.assertNotEqual(lowered(done(told, 2), ELEVEN, 1), done(lowered(told, ELEVEN, 1), 2))
        self.assertEqual((genus(22), new_dimension(22)), (2, 0))
        rows = part_rows(TWENTY_TWO, part="staying")
        table = tuple(lowered(TWENTY_TWO.sum_of(row), ELEVEN, 1).row for row in rows)
        (one,) = table_product(kernel_of(table), rows)
        self.assertIs(lowered(TWENTY_TWO.sum_of(one), ELEVEN, 1).is_zero, True)
        self.assertIs(is_new(TWENTY_TWO.sum_of(one)), False)
        polynomials = [kind.polynomial(2) for level in (11, 15, 19, 35, 37) for kind in KINDS[level]]
        self.assertLess(len(set(polynomials)), len(polynomials))
        self.assertEqual([home_of(kind) for kind in KINDS[37]], [37, 37])


if __name__ == "__main__":
    unittest.main()
