"""[9.1] to [9.8], [0.17]: traces by counting forms."""

import unittest
from fractions import Fraction
from math import gcd, isqrt

from levelroads.base.numbers import divisors
from levelroads.base.ratios import Ratio
from levelroads.doing.doings import doing_table
from levelroads.errors import InvalidCount, InvalidLevel, InvalidOperation
from levelroads.form.binary import weighted_number
from levelroads.pair.pairs import count_pairs
from levelroads.rim.groups import genus
from levelroads.rim.rims import count_rims
from levelroads.symbol.symbols import Space
from levelroads.trace import traces as module
from levelroads.trace.traces import dimension_of, new_trace, pairs_met, times_of, trace_of, trace_parts
from support import NO_INTEGERS, NO_LEVELS, SIXTY, Case

NO_NUMBERS = NO_INTEGERS + (0, -1, 201, 1000, SIXTY, Space(11))


def fraction(ratio):
    return Fraction(ratio.top, ratio.bottom)


def proper(level, numbers):
    return [number for number in numbers if gcd(number, level) == 1]


def plain_times(level, number, t, f):
    """The times of a pair met by [9.3], over all integers x to the modulus."""
    k = gcd(level, f)
    left = {x % level for x in range(level * k) if (x * x - t * x + number) % (level * k) == 0}
    return Fraction(count_pairs(level), count_pairs(level // k)) * len(left)


def plain_units(modulus):
    return sum(gcd(k, modulus) == 1 for k in range(modulus))


def plain_parts(level, number):
    """The four parts by [9.2] to [9.5]."""
    first = Fraction(count_pairs(level), 12) if isqrt(number) ** 2 == number else Fraction(0)
    second, third = Fraction(0), Fraction(0)
    for t in range(-number - 2, number + 3):
        for f in range(1, 2 * number + 2):
            left = 4 * number - t * t
            if left > 0 and left % (f * f) == 0 and left // (f * f) % 4 in (0, 3):
                second += plain_times(level, number, t, f) * fraction(weighted_number(left // (f * f)))
    for d in divisors(number):
        for c in divisors(level):
            e = gcd(c, level // c)
            if (number // d - d) % e == 0:
                third += min(d, number // d) * plain_units(e)
    return first, -second / 2, -third / 2, Fraction(sum(divisors(number)))


def newness(quotient):
    product = 1
    for prime in (p for p in range(2, quotient + 1) if all(p % k for k in range(2, p)) and quotient % p == 0):
        times = 0
        while quotient % prime ** (times + 1) == 0:
            times += 1
        product *= {1: -2, 2: 1}.get(times, 0)
    return product


class Examples(Case):
    def test_examples(self):
        self.same([[str(part) for part in trace_parts(11, 2)], [str(part) for part in trace_parts(37, 1)],
                   [str(part) for part in trace_parts(11, 4)]],
                  [['0', '-3', '-2', '3'], ['19/6', '-7/6', '-1', '1'], ['1', '-2', '-4', '7']])
        self.same([trace_of(11, 2), trace_of(37, 2), trace_of(22, 3), trace_of(23, 2), trace_of(1, 7), trace_of(33, 2),
                   trace_of(27, 4), trace_of(36, 5)], [-2, -2, -2, -1, 0, -3, -2, 0])
        self.same([dimension_of(11), dimension_of(37), dimension_of(100), new_trace(22, 3), new_trace(33, 2),
                   new_trace(33, 1), new_trace(22, 1)], [1, 2, 7, 0, 1, 1, 0])
        self.same([pairs_met(1), pairs_met(2), times_of(11, 2, -1, 1), times_of(11, 2, 2, 1), times_of(9, 4, 2, 2)],
                  [((-1, 1, 3), (0, 1, 4), (1, 1, 3)),
                   ((-2, 1, 4), (-1, 1, 7), (0, 1, 8), (1, 1, 7), (2, 1, 4)), 2, 0, 0])
        self.refused(InvalidOperation, trace_of, 11, 22)
        self.same([str(weighted_number(measure)) for _, _, measure in pairs_met(2)], ['1/2', '1', '1', '1', '1/2'])
        self.same([times_of(11, 2, t, f) for t, f, _ in pairs_met(2)], [0, 2, 2, 2, 0])

    def test_constant(self):
        self.same(module.MAX_TRACED, 200)


class PairsMet(Case):
    def test_pairs_met(self):
        for number in list(range(1, 41)) + [64, 99, 100, 144, 199, 200]:
            wanted = []
            for t in range(-2 * number, 2 * number + 1):
                left = 4 * number - t * t
                wanted += [(t, f, left // (f * f)) for f in range(1, 30)
                           if left > 0 and left % (f * f) == 0 and left // (f * f) % 4 in (0, 3)]
            self.same(pairs_met(number), tuple(wanted))

    def test_times(self):
        for level in (1, 2, 4, 8, 9, 11, 12, 16, 25, 27, 36, 49, 72, 97, 100):
            for number in proper(level, (1, 2, 4, 5, 7, 9, 16, 25, 49, 64, 121, 199)):
                for t, f, _ in pairs_met(number):
                    found = times_of(level, number, t, f)
                    self.assertIs(type(found), int)
                    self.assertEqual(found, plain_times(level, number, t, f))


class Traces(Case):
    def test_parts(self):
        for level in (1, 2, 4, 6, 8, 9, 11, 12, 16, 18, 20, 24, 25, 27, 32, 36, 37, 48, 49, 72, 100):
            for number in proper(level, (1, 2, 3, 4, 5, 7, 9, 10, 13, 16, 25, 36)):
                parts = trace_parts(level, number)
                self.assertEqual((type(parts), {type(part) for part in parts}), (tuple, {Ratio}))
                self.assertEqual(tuple(fraction(part) for part in parts), plain_parts(level, number))
                self.same(trace_of(level, number), int(sum(fraction(part) for part in parts)))

    def test_against_the_symbols(self):
        """[9.1], [9.6], [0.17]: the diagonals of the tables of the doings."""
        for level in list(range(1, 40)) + [46, 48, 49, 57, 62, 66, 72, 75, 81, 84, 90, 96, 97, 100]:
            space = Space(level)
            for number in proper(level, (1, 2, 3, 4, 5, 6, 7, 8, 9, 11, 13, 25, 36, 49, 59, 60)):
                found = trace_of(level, number)
                self.assertIs(type(found), int)
                sums = []
                for part in ("staying", "closed") if number < 7 else ("staying",):
                    table = doing_table(space, number, part=part)
                    sums.append(sum((fraction(row[k]) for k, row in enumerate(table)), Fraction(0)))
                self.assertEqual(sums, [found, 2 * found][:len(sums)])

    def test_bounds(self):
        """[9.6]"""
        for level in (1, 11, 12, 37, 60, 89, 97):
            for number in proper(level, range(1, 201, 7)):
                found = trace_of(level, number)
                self.assertIs(type(found), int)
                many = genus(level) * len(divisors(number))
                self.assertLessEqual(found * found, number * many * many)

    def test_greatest_numbers(self):
        """Products and powers, [0.16], of what multiplies at the levels of genus 1."""
        for level in (11, 17, 19, 49):
            at = {number: trace_of(level, number) for number in proper(level, range(1, 201))}
            for m in at:
                for n in at:
                    if m * n <= 200 and gcd(m, n) == 1:
                        self.assertEqual(at[m * n], at[m] * at[n])
            for prime in (2, 3, 5, 13):
                power = prime
                while power * prime <= 200:
                    self.assertEqual(at[power * prime], at[prime] * at[power] - prime * at[power // prime])
                    power *= prime

    def test_dimensions(self):
        for level in range(1, 101):
            self.same([dimension_of(level), trace_of(level, 1)], [genus(level)] * 2)

    def test_new_traces(self):
        """[9.7]"""
        for level in range(1, 101):
            for number in proper(level, (1, 2, 3, 5, 7, 9, 16, 25, 49, 77, 121, 199)):
                found = new_trace(level, number)
                self.same(found, sum(newness(level // below) * trace_of(below, number) for below in divisors(level)))
                self.same(trace_of(level, number),
                          sum(len(divisors(level // below)) * new_trace(below, number) for below in divisors(level)))


class Refusing(Case):
    def test_levels(self):
        for level in NO_LEVELS:
            for call in (trace_parts, trace_of, new_trace):
                self.refused(InvalidLevel, call, level, 2)
                self.refused(InvalidLevel, call, level, "x")
            self.refused(InvalidLevel, dimension_of, level)
            self.refused(InvalidLevel, times_of, level, 0, None, None)

    def test_numbers(self):
        for value in NO_NUMBERS:
            self.refused_with(InvalidCount, "value", value, pairs_met, value)
            for call in (trace_parts, trace_of, new_trace):
                self.refused_with(InvalidCount, "value", value, call, 11, value)
            self.refused_with(InvalidCount, "value", value, times_of, 11, value, None, None)
        for level, number in ((11, 22), (11, 11), (12, 2), (12, 9), (100, 200), (97, 194), (6, 4)):
            for call in (trace_parts, trace_of, new_trace):
                self.refused(InvalidOperation, call, level, number)

    def test_pairs_met(self):
        for value in NO_INTEGERS + (3, -3, 4, SIXTY):
            self.refused_with(InvalidCount, "value", value, times_of, 11, 2, value, 1)
            self.refused_with(InvalidCount, "value", value, times_of, 11, 2, value, None)
            # Ahead of what both have in common.
            self.refused_with(InvalidCount, "value", value, times_of, 2, 2, value, 1)
        for value in NO_INTEGERS + (0, -1, 2, 3, SIXTY):
            self.refused_with(InvalidCount, "value", value, times_of, 11, 2, 0, value)
            self.refused_with(InvalidCount, "value", value, times_of, 2, 2, 0, value)
        # For 4 and 0 the square of 2 divides 16, and 4 is a measure; that of 4 leaves 1, which is none.
        self.same(times_of(9, 4, 0, 2), int(plain_times(9, 4, 0, 2)))
        self.refused_with(InvalidCount, "value", 4, times_of, 9, 4, 0, 4)
        self.refused_with(InvalidCount, "value", 3, times_of, 9, 4, 0, 3)
        for t, f, _ in pairs_met(2):
            self.refused(InvalidOperation, times_of, 2, 2, t, f)
        # The square of t is 4 n, not less.
        for number, t in ((1, 2), (1, -2), (4, 4), (49, -14), (196, 28)):
            self.refused_with(InvalidCount, "value", t, times_of, 11, number, t, 1)
            self.assertTrue(all(one * one < 4 * number for one, _, _ in pairs_met(number)))

    def test_bounds(self):
        self.same([len(pairs_met(200)) > 50, trace_of(11, 200), trace_of(1, 200)], [True, trace_of(11, 8) * trace_of(
            11, 25), 0])


class Statements(Case):
    def test_what_is_not_true(self):
        """[9.8]"""
        self.assertNotEqual(trace_parts(37, 1)[0].bottom, 1)
        self.assertLess(trace_of(22, 3), trace_of(2, 3))
        self.same([new_trace(22, 1), genus(22)], [0, 2])
        one, other = [(a, b) for a in range(1, 11) for b in range(a + 1, 11)
                      if count_rims(a) != count_rims(b)][0]
        self.assertTrue(all(trace_of(one, n) == trace_of(other, n) == 0 for n in range(1, 13)
                            if gcd(n, one * other) == 1))


if __name__ == "__main__":
    unittest.main()
