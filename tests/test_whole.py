"""[0.14], [0.17] to [0.22]: what the document promises over the whole program, by all of its roads."""

import random
import unittest
from math import gcd

from levelroads.base.numbers import divisor_sum, divisors, is_prime
from levelroads.base.polys import poly_product, poly_value
from levelroads.base.ratios import Ratio
from levelroads.base.tables import determinant_of, echelon
from levelroads.doing.doings import done, doing_table, is_staying, part_rows, turned
from levelroads.kind.kinds import doing_polynomial, kinds
from levelroads.old.levels import copies_of, home_kind, home_of, new_dimension, new_rows
from levelroads.quat.lots import lots
from levelroads.quat.tables import lot_polynomial, lot_table
from levelroads.rim.groups import genus
from levelroads.rim.rims import rim_of
from levelroads.row.cubics import CUBIC_LEVELS, cubic_number
from levelroads.row.forms import first_difference, form_bound, form_rows, is_form_row, row_with
from levelroads.row.rows import eta_product
from levelroads.symbol.symbols import Space
from levelroads.trace.traces import dimension_of, new_trace, trace_of
from support import Case, random_fraction, random_ratio
from test_rows import EIGHT

LEVELS = list(range(1, 41)) + [43, 46, 48, 49, 53, 54, 57, 60, 61, 64, 66, 72, 75, 81, 84, 89, 90, 97, 98, 100]
SPACES = {level: Space(level) for level in LEVELS}
KINDS = {level: kinds(space) for level, space in SPACES.items()}
PRIMES = [level for level in LEVELS if is_prime(level)]


def proper(level, numbers):
    return [number for number in numbers if gcd(number, level) == 1]


def sum_of(ratios):
    """The sum of ratios, which is an integer."""
    added = Ratio(0)
    for ratio in ratios:
        added = added.plus(ratio)
    assert added.bottom == 1
    return added.top


def trace_by_symbols(level, number):
    table = doing_table(SPACES[level], number, part="staying")
    return sum_of([row[k] for k, row in enumerate(table)])


class Genus(Case):
    def test_all_roads(self):
        """[0.14], [0.17]"""
        for level, space in SPACES.items():
            g = genus(level)
            self.same([len(space.closed_rows()), len(part_rows(space, part="staying")), dimension_of(level)],
                      [2 * g, g, g])
            self.same([sum(kind.dimension for kind in KINDS[level]), len(doing_polynomial(space, 1)) - 1], [g, g])
            self.same(len(form_rows(space, max(1, form_bound(level)))), g)
            self.same(sum(new_dimension(below) * len(divisors(level // below)) for below in divisors(level)), g)
        for prime in PRIMES:
            self.same(len(lots(prime)), genus(prime) + 1)
        self.assertEqual([level for level in range(1, 101) if genus(level) == 1], list(CUBIC_LEVELS))

    def test_boundaries(self):
        """[0.14]"""
        chance = random.Random(201)
        for level, space in SPACES.items():
            one, other = random_fraction(chance, 50), random_fraction(chance, 50)
            start, end = rim_of(level, one), rim_of(level, other)
            wanted = {} if start == end else {start: Ratio(-1), end: Ratio(1)}
            path = space.path(one, other)
            self.assertEqual((path.boundary(), path.is_closed), (wanted, start == end))


class Traces(Case):
    def test_all_roads(self):
        """[0.17], [0.19]: by symbols, by forms, by kinds and their homes, and as a row of the level."""
        for level, space in SPACES.items():
            for number in proper(level, (1, 2, 3, 4, 5, 7, 9, 12, 35, 60)):
                wanted = trace_of(level, number)
                polynomial = doing_polynomial(space, number)
                self.same(trace_by_symbols(level, number), wanted)
                self.same(-polynomial[-2] if len(polynomial) > 1 else 0, wanted)
                self.same(sum(-kind.polynomial(number)[-2] for kind in KINDS[level]), wanted)
                self.same(sum(new_trace(below, number) * len(divisors(level // below)) for below in divisors(level)),
                          wanted)
            begun = tuple(Ratio(trace_by_symbols(level, number)) for number in range(1, form_bound(level) + 1))
            row = row_with(space, begun, 60)
            for number in proper(level, range(1, 61)):
                self.assertEqual(row[number - 1], Ratio(trace_of(level, number)))

    def test_new_traces(self):
        """The trace on the new sums of a level is the new trace."""
        for level in (11, 22, 23, 26, 33, 37, 39, 44, 46, 57, 60):
            space = Space(level)
            rows = new_rows(space)
            leads = [[k for k, entry in enumerate(row) if entry.top][0] for row in rows]
            for number in proper(level, (1, 2, 3, 5, 7, 13)):
                traces = [done(space.sum_of(row), number).row[lead] for row, lead in zip(rows, leads)]
                self.same(sum_of(traces), new_trace(level, number))


class Lots(Case):
    def test_all_roads(self):
        """[0.18]"""
        for prime in PRIMES:
            full = lots(prime)
            for number in proper(prime, (1, 2, 3, 4, 6, 9, 11, 25, 58)):
                led = (-divisor_sum(number), 1)
                found = lot_polynomial(prime, number)
                self.same(found, poly_product(led, doing_polynomial(SPACES[prime], number)))
                trace = sum(row[k] for k, row in enumerate(lot_table(full, number)))
                self.same(trace, divisor_sum(number) + trace_of(prime, number))
                self.same(-found[-2], trace)


class Kinds(Case):
    def test_homes(self):
        """[0.19]: the staying half is the sum of kinds, and each of them comes from one level."""
        for level, found in KINDS.items():
            rows = tuple(row for kind in found for row in kind.rows)
            self.assertEqual(echelon(rows), part_rows(SPACES[level], part="staying"))
            if level <= 60:
                for kind in found:
                    home, first = home_of(kind), home_kind(kind)
                    self.same([level % home, first.level, first.dimension * copies_of(kind)], [0, home, kind.dimension])
                    self.same(home_of(first), home)


class Rows(Case):
    def test_told_apart(self):
        """[0.20]"""
        chance = random.Random(202)
        for level, space in SPACES.items():
            bound = form_bound(level)
            rows = form_rows(space, 60)
            if rows:
                mixed = []
                for _ in range(2):
                    told = [Ratio(0)] * 60
                    for row in rows:
                        many = random_ratio(chance, 2)
                        told = [entry.plus(part.times(many)) for entry, part in zip(told, row)]
                    mixed.append(tuple(told))
                one, other = mixed
                self.assertEqual(one == other, one[:bound] == other[:bound])
                self.assertTrue(one == other or first_difference(one, other) <= bound)
                self.assertEqual(row_with(space, one[:bound], 60), one)

    def test_genus_one(self):
        """[0.20]: one list of integers by symbols, forms, cubics and, at eight levels, products."""
        for level in CUBIC_LEVELS:
            (row,) = form_rows(SPACES[level], 60)
            (kind,) = KINDS[level]
            for number in proper(level, range(1, 61)):
                self.assertEqual([str(row[number - 1]), kind.value_of(number)],
                                 [str(trace_of(level, number)), trace_of(level, number)])
                if is_prime(number):
                    self.assertEqual(cubic_number(level, number), kind.value_of(number))
            if level in EIGHT:
                self.assertEqual(eta_product(EIGHT[level], 61).entries[1:], row)


class Endless(Case):
    def test_path(self):
        """[0.21]"""
        for level, space in SPACES.items():
            path = space.path((0, 1), (1, 0))
            for number in proper(level, (2, 3, 5, 7, 12, 59)):
                told = path.scaled(divisor_sum(number)).minus(done(path, number))
                self.assertIs(told.is_closed, True)
                if is_prime(level):
                    top = Ratio(level - 1, 12).top
                    table = doing_table(space, number, part="staying")
                    less = tuple(row[:k] + (row[k].minus(divisor_sum(number)),) + row[k + 1:]
                                 for k, row in enumerate(table))
                    found = determinant_of(less)
                    self.assertEqual((found.bottom, found.top % top), (1, 0))
                    value = poly_value(doing_polynomial(space, number), divisor_sum(number))
                    self.assertEqual(abs(found.top), abs(value))


class Statements(Case):
    def test_what_is_not_true(self):
        """[0.22]"""
        eleven, twenty_two = SPACES[11], Space(22)
        told = eleven.symbol(1, 2)
        self.assertNotEqual(done(done(told, 2), 2), done(told, 4))
        self.assertFalse(turned(told) == told.scaled(-1))
        # Each line of the plane at 22 is led into itself by all doings of proper numbers.
        (plane,) = kinds(twenty_two)
        self.same([plane.dimension, plane.degree], [2, 1])
        self.assertTrue(all(is_staying(twenty_two.sum_of(row)) for row in plane.rows))
        first, second = form_rows(twenty_two, 30)
        self.assertTrue(all(second[number - 1].top == 0 for number in proper(22, range(1, 31))))
        self.assertTrue(first != second and is_form_row(twenty_two, second))
        self.assertNotEqual(sum(lot_table(lots(11), 11)[0]), divisor_sum(11))


if __name__ == "__main__":
    unittest.main()
