"""[12.1] to [12.5], [0.18], [0.22]: tables of lots."""

import random
import unittest
from fractions import Fraction
from math import gcd

from levelroads.base.numbers import divisor_sum
from levelroads.base.polys import poly_product, poly_quotient
from levelroads.base.ratios import Ratio
from levelroads.base.tables import polynomial_of, table_of
from levelroads.errors import InvalidCount, InvalidLot, InvalidPrime
from levelroads.kind.kinds import doing_polynomial
from levelroads.quat import tables as module
from levelroads.quat.lots import are_lots, class_of, count_between, lots, lots_of_norm, neighbours, whole_lot
from levelroads.quat.quaternions import Order
from levelroads.quat.tables import (
    are_led, count_within, lot_polynomial, lot_table, lot_weights, lots_mass)
from levelroads.symbol.symbols import Space
from support import NO_INTEGERS, SIXTY, Case
from test_lots import NO_FULL, NO_LOTS
from test_quaternions import NO_PRIMES, PRIMES

FULL = {prime: lots(prime) for prime in PRIMES}
ELEVEN = FULL[11]
NO_NUMBERS = NO_INTEGERS + (0, -1, 61, SIXTY)


def product(one, other):
    return tuple(tuple(sum(x * y for x, y in zip(row, column)) for column in zip(*other)) for row in one)


def plus(one, other, times=1):
    return tuple(tuple(x + times * y for x, y in zip(row, less)) for row, less in zip(one, other))


def unit(size):
    return tuple(tuple(int(r == s) for s in range(size)) for r in range(size))


def sum_without(number, prime):
    return sum(d for d in range(1, number + 1) if number % d == 0 and d % prime)


def another_list(chance, prime):
    """A full list in another sequence, with other lots that are alike."""
    order, found = Order(prime), []
    for lot in FULL[prime]:
        y = (0, 0, 0, 0)
        while not any(y) or order.norm_of(y) * lot.size > 10000:
            y = tuple(chance.randint(-2, 2) for _ in range(4))
        found.append(lot.behind(y))
    chance.shuffle(found)
    return tuple(found)


class Examples(Case):
    def test_examples(self):
        full = lots(11)
        self.same([len(full), sorted(lot_weights(full)), str(lots_mass(full)), [sum(row) for row in lot_table(full, 2)],
                   [sum(row) for row in lot_table(full, 11)]], [2, [4, 6], '5/12', [3, 3], [1, 1]])
        self.same([lot_polynomial(11, 2), lot_polynomial(11, 3), lot_polynomial(23, 2), lot_polynomial(2, 3),
                   lot_polynomial(2, 2), lot_polynomial(11, 1)],
                  [(-6, -1, 1), (-4, -3, 1), (3, -4, -2, 1), (-4, 1), (-1, 1), (1, -2, 1)])
        self.same([lot_table((whole_lot(2),), 3), lot_weights((whole_lot(2),)), count_within(whole_lot(11), 6),
                   count_within(whole_lot(11), 22), are_led((whole_lot(13),), 0, 0, 5)], [((4,),), (24,), 12, 3, True])
        self.refused(InvalidLot, lot_table, (whole_lot(11),), 2)
        one, other = (full, full[::-1]) if lot_weights(full) == (4, 6) else (full[::-1], full)
        self.same([lot_table(one, 2), lot_table(other, 2)], [((1, 2), (3, 0)), ((0, 3), (2, 1))])

    def test_constant(self):
        self.same(module.MAX_TABLED, 60)


class Weights(Case):
    def test_weights(self):
        chance = random.Random(151)
        for prime in PRIMES:
            for full in (FULL[prime], another_list(chance, prime)):
                self.same(lot_weights(full), tuple(len(lot) for lot in full))
                mass = lots_mass(full)
                self.assertIs(type(mass), Ratio)
                self.assertEqual(Fraction(mass.top, mass.bottom), Fraction(prime - 1, 24))
                self.assertEqual(Fraction(prime - 1, 24), sum(Fraction(1, len(lot)) for lot in full))


class Tables(Case):
    def test_by_its_words(self):
        """[12.2]: elements between the lots, and lots within them."""
        for prime in (2, 3, 5, 11, 17, 23, 37, 61):
            full = FULL[prime]
            for number in (1, 2, 3, 4, 5, 6, 7, 11, 12):
                table = lot_table(full, number)
                self.same(table, tuple(tuple(count_between(other, one, number) // len(other) for other in full)
                                       for one in full))
                for one in full:
                    for other in full:
                        self.assertEqual(count_between(other, one, number) % len(other), 0)
            for number in (2, 3, 5, 7):
                if number != prime:
                    wanted = [[0] * len(full) for _ in full]
                    for row, lot in zip(wanted, full):
                        for near in neighbours(lot, number):
                            row[class_of(full, near)] += 1
                    self.same(lot_table(full, number), tuple(tuple(row) for row in wanted))
            # Within the whole lot by all norms, also those that the prime divides.
            for number in (4, 6, 8, 9, 12, prime) if prime < 60 else (4, 6):
                row = [0] * len(full)
                for lot in lots_of_norm(prime, number):
                    row[class_of(full, lot)] += 1
                self.same(lot_table(full, number)[class_of(full, whole_lot(prime))], tuple(row))

    def test_statements(self):
        """[12.3]"""
        for prime in (2, 3, 7, 11, 13, 19, 23, 43, 59, 71):
            full = FULL[prime]
            weights = lot_weights(full)
            tables = {number: lot_table(full, number) for number in range(1, 61)}
            self.same(tables[1], unit(len(full)))
            for number, table in tables.items():
                self.assertEqual([sum(row) for row in table], [sum_without(number, prime)] * len(full))
                for r, row in enumerate(table):
                    for s, entry in enumerate(row):
                        self.assertIs(type(entry), int)
                        self.assertEqual(entry * weights[s], table[s][r] * weights[r])
            for m in range(2, 31):
                for n in range(2, 60 // m + 1):
                    if gcd(m, n) == 1:
                        self.same(product(tables[m], tables[n]), tables[m * n])
            for q in (2, 3, 5, 7):
                power = q
                while power * q <= 60:
                    led = product(tables[q], tables[power])
                    if q != prime:
                        self.same(led, plus(tables[power * q], tables[power // q], q))
                    else:
                        self.same(led, tables[power * q])
                    power *= q
            if prime <= 60:
                for line in tables[prime] + tuple(zip(*tables[prime])):
                    self.assertEqual(sorted(line), [0] * (len(full) - 1) + [1])
                self.same(product(tables[prime], tables[prime]), unit(len(full)))

    def test_other_lists(self):
        """[12.4]: rows and columns in another sequence, and nothing else, for other lots that are alike."""
        chance = random.Random(152)
        for prime in PRIMES:
            full = FULL[prime]
            other = another_list(chance, prime)
            self.assertIs(are_lots(prime, other), True)
            places = [class_of(full, lot) for lot in other]
            for number in (1, 2, 3, 10, 37, 60):
                table = lot_table(full, number)
                self.same(lot_table(other, number), tuple(tuple(table[r][s] for s in places) for r in places))

    def test_count_within(self):
        for prime in (2, 3, 11, 23, 59, 97):
            for number in range(1, 61):
                wanted = sum_without(number, prime)
                for lot in FULL[prime][:2]:
                    self.same(count_within(lot, number), wanted)
        for prime, number in ((11, 6), (2, 8), (3, 30), (5, 25), (97, 12)):
            self.same(count_within(whole_lot(prime), number), len(lots_of_norm(prime, number)))
        self.same([count_within(near, 3) for near in neighbours(whole_lot(11), 2)],
                  [len(neighbours(near, 3)) for near in neighbours(whole_lot(11), 2)])

    def test_are_led(self):
        for prime in (2, 11, 23, 37, 97):
            full = FULL[prime]
            for number in (1, 2, 3, 6, 59, 60):
                table = lot_table(full, number)
                for r in range(len(full)):
                    for s in range(len(full)):
                        self.assertIs(are_led(full, r, s, number), table[r][s] > 0)

    def test_connected(self):
        """[12.5]"""
        for prime in PRIMES:
            two = lot_table(FULL[prime], 3 if prime == 2 else 2)
            power = added = unit(len(two))
            for _ in range(8):
                power = product(power, two)
                added = plus(added, power)
            self.assertTrue(all(entry > 0 for row in added for entry in row))


class Polynomials(Case):
    def test_polynomials(self):
        chance = random.Random(153)
        for prime in PRIMES:
            for full in (FULL[prime], another_list(chance, prime)):
                for number in (1, 2, 9, 30, prime if prime < 61 else 60):
                    wanted = tuple(entry.top for entry in polynomial_of(table_of(lot_table(full, number))))
                    self.same(lot_polynomial(prime, number), wanted)

    def test_against_the_symbols(self):
        """[12.4], [0.18]"""
        for prime in PRIMES:
            space = Space(prime)
            for number in (1, 2, 3, 4, 5, 7, 10, 12, 29, 60) if prime < 50 else (2, 3, 4, 35, 59):
                if number % prime:
                    led = (-divisor_sum(number), 1)
                    found = lot_polynomial(prime, number)
                    self.same(found, poly_product(led, doing_polynomial(space, number)))
                    self.same(poly_quotient(found, led), doing_polynomial(space, number))


class Refusing(Case):
    def test_lists(self):
        for value in NO_FULL:
            self.refused(InvalidLot, lot_weights, value)
            self.refused(InvalidLot, lots_mass, value)
            for number in (2, 0):
                self.refused(InvalidLot, lot_table, value, number)
                self.refused(InvalidLot, are_led, value, 0, 0, number)
                self.refused(InvalidLot, are_led, value, None, 7, number)

    def test_numbers(self):
        for value in NO_NUMBERS:
            self.refused_with(InvalidCount, "value", value, lot_table, ELEVEN, value)
            self.refused_with(InvalidCount, "value", value, count_within, ELEVEN[0], value)
            self.refused_with(InvalidCount, "value", value, lot_polynomial, 11, value)
            self.refused_with(InvalidCount, "value", value, are_led, ELEVEN, 0, 1, value)

    def test_indices(self):
        for value in NO_INTEGERS + (-1, 2, SIXTY):
            for number in (2, 0):
                self.refused_with(InvalidCount, "value", value, are_led, ELEVEN, value, 0, number)
                self.refused_with(InvalidCount, "value", value, are_led, ELEVEN, value, "x", number)
                self.refused_with(InvalidCount, "value", value, are_led, ELEVEN, 1, value, number)
        self.refused_with(InvalidCount, "value", 1, are_led, FULL[13], 0, 1, 2)

    def test_lots_and_primes(self):
        for value in NO_LOTS + (ELEVEN,):
            self.refused(InvalidLot, count_within, value, 2)
            self.refused(InvalidLot, count_within, value, 0)
        for value in NO_PRIMES:
            self.refused(InvalidPrime, lot_polynomial, value, 2)
            self.refused(InvalidPrime, lot_polynomial, value, 0)


class Statements(Case):
    def test_what_is_not_true(self):
        """[12.5], [0.22]"""
        table = lot_table(ELEVEN, 2)
        self.assertNotEqual(table[0][1], table[1][0])
        self.assertGreater(max(max(row) for row in lot_table(FULL[2], 3)), 3)
        tables = [lot_table(FULL[23], number) for number in range(1, 12)]
        self.assertTrue(any(two[r][s] < one[r][s] for one, two in zip(tables, tables[1:])
                            for r in range(3) for s in range(3)))
        self.assertNotEqual(sum(lot_table(ELEVEN, 22)[0]), divisor_sum(22))


if __name__ == "__main__":
    unittest.main()
