"""[13.1] to [13.7]: rows in q."""

import random
import unittest
from fractions import Fraction
from math import gcd

from levelroads.base.numbers import divisor_sum
from levelroads.base.ratios import Ratio
from levelroads.errors import InvalidCount, InvalidLevel, InvalidOperation, InvalidRow, InvalidTable
from levelroads.row import rows as module
from levelroads.row.rows import Row, divisor_row, eta_product, eta_row, led_row
from levelroads.trace.traces import trace_of
from support import NO_INTEGERS, NO_LEVELS, SIXTY, SIXTY_ONE, Case

EIGHT = {
    11: {1: 2, 11: 2}, 14: {1: 1, 2: 1, 7: 1, 14: 1}, 15: {1: 1, 3: 1, 5: 1, 15: 1}, 20: {2: 2, 10: 2},
    24: {2: 1, 4: 1, 6: 1, 12: 1}, 27: {3: 2, 9: 2}, 32: {4: 2, 8: 2}, 36: {6: 4},
}
SOME = Row((1, Ratio(1, 2), 3))
NO_ROWS = NO_INTEGERS + (0, 5, (1, 2, 3), [1], SOME.entries, [SOME], (SOME,), "row")
NO_SIZES = NO_INTEGERS + (0, -1, 401, SIXTY)


def fractions(row):
    return [Fraction(entry.top, entry.bottom) for entry in row.entries]


def row_of(entries):
    return Row(tuple(Ratio(Fraction(entry).numerator, Fraction(entry).denominator) for entry in entries))


def plain_product(one, other):
    size = min(len(one), len(other))
    return [sum((one[k] * other[n - k] for k in range(n + 1)), Fraction(0)) for n in range(size)]


def plain_inverse(one):
    found = []
    for n in range(len(one)):
        rest = Fraction(int(n == 0)) - sum((one[k] * found[n - k] for k in range(1, n + 1)), Fraction(0))
        found.append(rest / one[0])
    return found


def plain_power(one, many):
    power = [Fraction(1)] + [Fraction(0)] * (len(one) - 1)
    base = one if many >= 0 else plain_inverse(one)
    for _ in range(abs(many)):
        power = plain_product(power, base)
    return power


def plain_eta(size, step=1):
    """The product of all 1 - q ** m, m the multiples of an integer, one after the other."""
    found = [1] + [0] * (size - 1)
    for m in range(step, size, step):
        found = [entry - (found[n - m] if n >= m else 0) for n, entry in enumerate(found)]
    return [Fraction(entry) for entry in found]


def drawn(chance, size, top=9, bottom=5):
    entries = [chance.choice((chance.randint(-top, top), Ratio(chance.randint(-top, top), chance.randint(1, bottom))))
               for _ in range(size)]
    return Row(tuple(entries))


class Examples(Case):
    def test_examples(self):
        left = eta_product({1: 2, 11: 2}, 13)
        self.same([left.whole(), eta_row(8).whole(), eta_row(8).raised(-1).whole(), eta_row(8).raised(3).whole(),
                   [str(entry) for entry in divisor_row(5)]],
                  [(0, 1, -2, -1, 2, 1, 2, -2, 0, -2, -2, 1, -2), (1, -1, -1, 0, 0, 1, 0, 1),
                   (1, 1, 2, 3, 5, 7, 11, 15), (1, -3, 0, 5, 0, 0, -7, 0), ['-1/24', '1', '3', '4', '7']])
        self.same([led_row(11, left, 2) == left.scaled(-2).cut(7), led_row(11, left, 2).size,
                   led_row(11, left, 11) == left.cut(2), led_row(1, Row((1, 0, 0, 0, 5)), 2).whole()],
                  [True, 7, True, (3, 0, 5)])
        self.same([eta_product({6: 4}, 8).whole(), eta_row(5).spread(2).whole(), Row((0, 0)).order, left.order,
                   len(left), eta_product({1: -1, 25: 1}, 4).whole()],
                  [(0, 1, 0, 0, 0, 0, 0, -4), (1, 0, -1, 0, -1), None, 1, 13, (0, 1, 1, 2)])
        self.refused(InvalidTable, eta_product, {1: 1}, 5)

    def test_constants(self):
        self.same([module.MAX_ROW, module.MAX_RAISED, module.MAX_LED], [400, 60, 60])


class Rows(Case):
    def test_entries(self):
        chance = random.Random(161)
        for size in (1, 2, 17, 400):
            row = drawn(chance, size)
            self.same([type(row.entries), {type(entry) for entry in row.entries}, row.size, len(row)],
                      [tuple, {Ratio}, size, size])
            self.assertEqual(list(row), list(row.entries))
            self.assertEqual(Row(row.entries), row)
            for index in {0, size // 2, size - 1}:
                self.assertEqual(row.at(index), row.entries[index])
                self.assertIs(type(row.at(index)), Ratio)
        mixed = Row((2, Ratio(1, 2), 0, Ratio(-3), SIXTY))
        self.same([str(entry) for entry in mixed], ["2", "1/2", "0", "-3", str(SIXTY)])

    def test_whole(self):
        self.same(Row((2, Ratio(-4, 2), 0)).whole(), (2, -2, 0))
        for entries in ((Ratio(1, 2),), (1, 2, Ratio(-1, 3)), (Ratio(1, 2), Ratio(1, 2))):
            self.refused(InvalidOperation, Row(entries).whole)

    def test_order(self):
        for entries, wanted in (((0,), None), ((1,), 0), ((0, 0, Ratio(1, 7)), 2), ((0, -5, 1), 1), ((0,) * 400, None),
                                ((0,) * 399 + (1,), 399)):
            self.same(Row(entries).order, wanted)

    def test_sums_and_products(self):
        chance = random.Random(162)
        for one, two in ((1, 1), (1, 9), (9, 4), (30, 30), (400, 120), (400, 400)):
            row, other = drawn(chance, one), drawn(chance, two)
            a, b = fractions(row), fractions(other)
            self.assertEqual(fractions(row.plus(other)), [x + y for x, y in zip(a, b)])
            self.assertEqual(fractions(row.minus(other)), [x - y for x, y in zip(a, b)])
            if one * two < 50000:
                self.assertEqual(fractions(row.multiplied(other)), plain_product(a, b))
            self.assertEqual(row.multiplied(other), other.multiplied(row))
            self.same([row.plus(other).size, row.multiplied(other).size], [min(one, two)] * 2)
            for factor in (0, 1, -7, Ratio(2, 3), Ratio(0), SIXTY):
                told = factor if isinstance(factor, int) else Fraction(factor.top, factor.bottom)
                self.assertEqual(fractions(row.scaled(factor)), [x * told for x in a])
                self.assertEqual(row.scaled(factor).size, one)
        long = Row((SIXTY, SIXTY)).multiplied(Row((SIXTY, -SIXTY)))
        self.assertEqual(fractions(long.multiplied(long)), [SIXTY ** 4, 0])

    def test_raised(self):
        chance = random.Random(163)
        for size in (1, 2, 5, 12):
            for many in (-60, -7, -3, -2, -1, 0, 1, 2, 3, 8, 60):
                for row in (drawn(chance, size), drawn(chance, size, 3, 1), drawn(chance, size, 1, 1),
                            Row((0,) + tuple(drawn(chance, size))[1:]), Row((0,) * size), Row((1,) * size),
                            Row((-1,) + (2,) * (size - 1)), Row((SIXTY,) * size)):
                    if many < 0 and row.entries[0] == Ratio(0):
                        self.refused(InvalidOperation, row.raised, many)
                    else:
                        found = row.raised(many)
                        self.assertIs(type(found), Row)
                        self.assertEqual(fractions(found), plain_power(fractions(row), many))
        one = Row((1,) + (0,) * 399)
        for row in (eta_row(400), drawn(chance, 400, 3, 1), Row((2,) * 400)):
            if row.entries[0].top:
                self.assertEqual(row.raised(5).multiplied(row.raised(-5)), one)
                self.assertEqual(row.raised(60).multiplied(row.raised(-60)), one)
                self.assertEqual(row.raised(-1).multiplied(row), one)
        self.assertEqual((Row((0,) * 400).raised(0), Row((0, 1) * 200).raised(0)), (one, one))
        shifted = Row((0, 0, 2) + (1,) * 50)
        self.assertEqual(shifted.raised(30), Row((0,) * 53))
        self.assertEqual(fractions(shifted.raised(26)), [0] * 52 + [2 ** 26])

    def test_cut_and_spread(self):
        chance = random.Random(164)
        for size in (1, 6, 50, 400):
            row = drawn(chance, size)
            for few in {1, (size + 1) // 2, size}:
                self.assertEqual(row.cut(few).entries, row.entries[:few])
            for times in (1, 2, 3, 7, 399, 400):
                found = row.spread(times)
                self.same(found.size, size)
                for n, entry in enumerate(found):
                    self.assertEqual(entry, row.entries[n // times] if n % times == 0 else Ratio(0))

    def test_equal(self):
        self.assertEqual(Row((1, 2)), Row((Ratio(1), Ratio(4, 2))))
        for other in (Row((1,)), Row((1, 2, 0)), Row((1, 3)), Row((2, 1))):
            self.assertTrue(Row((1, 2)) != other and not Row((1, 2)) == other)
        for value in NO_ROWS:
            self.assertEqual((SOME == value, SOME != value), (False, True))

    def test_never_changed(self):
        for name in ("entries", "size", "order"):
            self.assertRaises(AttributeError, setattr, SOME, name, 5)
        for name in ("entries", "size", "order", "at", "whole", "plus", "minus", "multiplied", "scaled", "raised", "cut",
                     "spread", "__eq__", "__len__", "__iter__"):
            self.assertIn(name, vars(Row))

    def test_refused(self):
        for value in tuple(value for value in NO_INTEGERS if value not in ((1,), (1, 2), (Ratio(2),))) + (
                0, [1], (True,), (1, False), (1, None), ("1",), (1, "2"), (SIXTY_ONE,), (1, -SIXTY_ONE), ((1,),),
                (1,) * 401, SOME, (SOME,), {0: 1}, (1, [2])):
            self.refused(InvalidRow, Row, value)
        self.same([Row((1,) * 400).size, Row((0,)).size], [400, 1])
        for value in NO_ROWS:
            for call in (SOME.plus, SOME.minus, SOME.multiplied):
                self.refused(InvalidRow, call, value)
        for value in NO_INTEGERS + (SOME, (1,), "1"):
            if not isinstance(value, Ratio):
                self.refused(InvalidOperation, SOME.scaled, value)
        for value in NO_INTEGERS + (-1, 3, SIXTY):
            self.refused_with(InvalidCount, "value", value, SOME.at, value)
        for value in NO_INTEGERS + (0, -1, 4, SIXTY):
            self.refused_with(InvalidCount, "value", value, SOME.cut, value)
        for value in NO_SIZES:
            self.refused_with(InvalidCount, "value", value, SOME.spread, value)
        for value in NO_INTEGERS + (-61, 61, SIXTY):
            self.refused_with(InvalidCount, "value", value, SOME.raised, value)
            self.refused_with(InvalidCount, "value", value, Row((0, 1)).raised, value)


class Products(Case):
    def test_eta_row(self):
        """[13.2], [13.3]"""
        for size in (1, 2, 3, 5, 6, 7, 8, 100, 400):
            row = eta_row(size)
            self.assertEqual(fractions(row), plain_eta(size))
        entries = eta_row(400).whole()
        known = {k * (3 * k - 1) // 2: 1 if k % 2 == 0 else -1 for k in range(-20, 21)}
        self.same(entries, tuple(known.get(n, 0) for n in range(400)))
        known = {k * (k + 1) // 2: (2 * k + 1) * (1 if k % 2 == 0 else -1) for k in range(30)}
        self.same(eta_row(400).raised(3).whole(), tuple(known.get(n, 0) for n in range(400)))
        ways = [1] + [0] * 399
        for part in range(1, 400):
            for n in range(part, 400):
                ways[n] += ways[n - part]
        self.same(eta_row(400).raised(-1).whole(), tuple(ways))
        for n in range(1, 400):
            self.assertEqual(n * entries[n], -sum(divisor_sum(j) * entries[n - j] for j in range(1, n + 1)))

    def test_eta_products(self):
        chance = random.Random(165)
        tables = list(EIGHT.values()) + [{}, {1: 24}, {24: 1}, {400: 24, 1: -24, 24: -1}, {2: 12, 1: -24, 25: 24}]
        while len(tables) < 40:
            table = {chance.randint(1, 30): chance.choice((-24, -5, -2, -1, 1, 2, 3, 7, 24)) for _ in range(4)}
            if sum(k * e for k, e in table.items()) % 24 == 0 and sum(k * e for k, e in table.items()) >= 0:
                tables.append(table)
        for table in tables:
            shift = sum(k * e for k, e in table.items()) // 24
            for size in (1, 2, 30):
                wanted = [Fraction(1)] + [Fraction(0)] * (size - 1)
                for k, e in table.items():
                    wanted = plain_product(wanted, plain_power(plain_eta(size, k), e))
                found = eta_product(table, size)
                self.assertEqual(fractions(found), ([Fraction(0)] * shift + wanted)[:size])
            kept = dict(table)
            eta_product(table, 5)
            self.assertEqual(table, kept)
        # By the rows themselves, to the greatest size.
        for table in list(EIGHT.values()) + [{1: 1, 23: 1}, {1: -1, 25: 1}, {5: -24, 6: 20}]:
            shift = sum(k * e for k, e in table.items()) // 24
            row = Row((1,) + (0,) * 399)
            for k, e in table.items():
                row = row.multiplied(eta_row(400).spread(k).raised(e))
            self.assertEqual(eta_product(table, 400).entries, (Row((0,) * 400).entries[:shift] + row.entries)[:400])
        most = {k: 24 for k in range(391, 401)}
        self.same([eta_product(most, 400).order, eta_product({}, 3).whole(), eta_product({400: 24}, 400).order,
                   eta_product({399: 24}, 400).order], [None, (1, 0, 0), None, 399])

    def test_divisor_row(self):
        for size in (1, 2, 50, 400):
            row = divisor_row(size)
            self.assertEqual(row.at(0), Ratio(-1, 24))
            self.same(tuple(entry.top for entry in row.entries[1:]), tuple(divisor_sum(n) for n in range(1, size)))
            self.assertTrue(all(entry.bottom == 1 for entry in row.entries[1:]))

    def test_refused(self):
        for value in NO_SIZES:
            for call in (eta_row, divisor_row):
                self.refused_with(InvalidCount, "value", value, call, value)
            self.refused_with(InvalidCount, "value", value, eta_product, {1: 2, 11: 2}, value)
        for value in tuple(value for value in NO_INTEGERS if value != {}) + (
                0, {0: 24}, {401: 24}, {408: 1}, {-1: -24}, {1: 25}, {24: 25}, {48: 25, 24: -25}, {96: 1, 1: -96}, {1: -24}, {24: 0}, {1: 0}, {1: 1}, {1: 23}, {25: -1, 1: 1},
                {True: 24}, {24: True}, {"1": 24}, {1: "24"}, {1: None}, {(1,): 24}, {24: Ratio(1)}, {SIXTY: 24},
                {24: SIXTY_ONE}, {1: 24, 2: 0}, [(1, 24)], ((1, 24),), {k: 24 for k in range(1, 12)}, SOME,
                {1: 24, None: 1}, {1: [24]}, {2: 24, 1: False}):
            for size in (5, 0):
                self.refused(InvalidTable, eta_product, value, size)
        self.same(eta_product({k: 24 for k in range(1, 11)}, 60).order, 55)


class Led(Case):
    def plain(self, level, row, number):
        entries = fractions(row)
        size = (len(entries) - 1) // number + 1
        return [sum((d * entries[m * number // (d * d)] for d in range(1, number + 1)
                     if m % d == 0 and number % d == 0 and gcd(d, level) == 1), Fraction(0)) for m in range(size)]

    def test_led(self):
        chance = random.Random(166)
        for level in (1, 2, 6, 11, 12, 30, 49, 97, 100):
            for size in (1, 2, 13, 121, 400):
                row = drawn(chance, size)
                for number in (1, 2, 3, 4, 6, 11, 12, 30, 36, 59, 60):
                    found = led_row(level, row, number)
                    self.assertIs(type(found), Row)
                    self.assertEqual(fractions(found), self.plain(level, row, number))
                    # One entry more is not known.
                    self.assertTrue((found.size - 1) * number < size <= found.size * number)
                self.assertEqual(led_row(level, row, 1), row)

    def test_commuting(self):
        """[13.4]"""
        chance = random.Random(167)
        for level in (1, 2, 6, 11, 14, 25):
            row = drawn(chance, 400)
            for m in (2, 3, 4, 5, 6, 7, 11):
                for n in (2, 3, 5, 9, 10, 12):
                    one, other = led_row(level, led_row(level, row, m), n), led_row(level, led_row(level, row, n), m)
                    size = min(one.size, other.size)
                    self.assertEqual(one.cut(size), other.cut(size))
                    if gcd(m, n) == 1 and m * n <= 60:
                        whole = led_row(level, row, m * n)
                        size = min(size, whole.size)
                        self.assertEqual(one.cut(size), whole.cut(size))
            for p in (2, 3, 5, 7):
                twice, square = led_row(level, led_row(level, row, p), p), led_row(level, row, p * p)
                wanted = square.plus(row.scaled(p)) if level % p else square
                size = min(twice.size, wanted.size)
                self.assertEqual(twice.cut(size), wanted.cut(size))

    def test_eight_levels(self):
        """[13.5]"""
        for level, table in EIGHT.items():
            row = eta_product(table, 400)
            self.same([str(row.at(0)), str(row.at(1))], ["0", "1"])
            for number in range(1, 61):
                led = led_row(level, row, number)
                self.assertEqual(led, row.scaled(row.at(number)).cut(led.size))
            for number in range(1, 201):
                if gcd(number, level) == 1:
                    self.same(row.whole()[number], trace_of(level, number))
            for m in range(2, 20):
                for n in range(2, 20):
                    if gcd(m, n) == 1:
                        self.assertEqual(row.at(m * n), row.at(m).times(row.at(n)))

    def test_divisor_rows(self):
        """[13.6]"""
        for prime in (2, 3, 5, 7, 11, 23, 89, 97):
            row = divisor_row(400).minus(divisor_row(400).spread(prime).scaled(prime))
            self.assertEqual(row.at(0), Ratio(prime - 1, 24))
            for number in range(1, 61):
                led = led_row(prime, row, number)
                if number % prime:
                    self.assertEqual(led, row.scaled(divisor_sum(number)).cut(led.size))
                else:
                    factor = led.at(0).over(row.at(0))
                    self.assertEqual(led, row.scaled(factor).cut(led.size))

    def test_refused(self):
        for level in NO_LEVELS:
            self.refused(InvalidLevel, led_row, level, SOME, 2)
            self.refused(InvalidLevel, led_row, level, None, 0)
        for value in NO_ROWS:
            self.refused(InvalidRow, led_row, 11, value, 2)
            self.refused(InvalidRow, led_row, 11, value, 0)
        for value in NO_INTEGERS + (0, -1, 61, SIXTY):
            self.refused_with(InvalidCount, "value", value, led_row, 11, SOME, value)


class Statements(Case):
    def test_what_is_not_true(self):
        """[13.7]"""
        row = eta_product(EIGHT[11], 400)
        self.assertNotEqual(led_row(11, led_row(11, row, 2), 2), led_row(11, row, 4))
        self.same(Row((0, 0, 1)).order, 2)
        # At the level 17 of the genus 1 no product of powers of both divisors has the first entries that are told.
        wanted = tuple([0] + [trace_of(17, n) for n in range(1, 12)])
        for a in range(-24, 25):
            for b in range(-24, 25):
                table = {k: e for k, e in ((1, a), (17, b)) if e}
                if a + 17 * b == 24:
                    self.assertNotEqual(eta_product(table, 12).whole(), wanted)


if __name__ == "__main__":
    unittest.main()
