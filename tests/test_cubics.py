"""[14.5], [14.6], [0.20]: cubics and their points."""

import unittest

from levelroads.errors import InvalidLevel, InvalidOperation, InvalidPrime
from levelroads.kind.kinds import kinds
from levelroads.rim.groups import genus
from levelroads.row import cubics as module
from levelroads.row.cubics import CUBIC_LEVELS, count_points, cubic_number, cubic_of, points_of
from levelroads.row.rows import eta_product
from levelroads.symbol.symbols import Space
from levelroads.trace.traces import trace_of
from support import NO_LEVELS, Case
from test_quaternions import NO_PRIMES, PRIMES
from test_rows import EIGHT

KNOWN = {
    11: (0, -1, 1, 0, 0), 14: (1, 0, 1, -1, 0), 15: (1, 1, 1, 0, 0), 17: (1, -1, 1, -1, 0), 19: (0, 1, 1, 1, 0),
    20: (0, 1, 0, -1, 0), 21: (1, 0, 0, 1, 0), 24: (0, -1, 0, 1, 0), 27: (0, 0, 1, 0, 0), 32: (0, 0, 0, -1, 0),
    36: (0, 0, 0, 0, 1), 49: (1, -1, 0, -2, -1)}
CALLS = (points_of, count_points, cubic_number)


def tried_points(level, prime):
    a1, a2, a3, a4, a6 = KNOWN[level]
    return tuple((x, y) for x in range(prime) for y in range(prime)
                 if (y * y + a1 * x * y + a3 * y - x ** 3 - a2 * x * x - a4 * x - a6) % prime == 0)


def proper_primes(level):
    return [prime for prime in PRIMES if level % prime]


class Examples(Case):
    def test_examples(self):
        self.same([cubic_of(11), points_of(11, 2), count_points(11, 2), cubic_number(11, 2), cubic_number(17, 3),
                   cubic_number(49, 5), cubic_number(27, 7)],
                  [(0, -1, 1, 0, 0), ((0, 0), (0, 1), (1, 0), (1, 1)), 5, -2, 0, 0, -1])

    def test_levels(self):
        self.same(module.CUBIC_LEVELS, (11, 14, 15, 17, 19, 20, 21, 24, 27, 32, 36, 49))
        self.assertEqual(list(CUBIC_LEVELS), [level for level in range(1, 101) if genus(level) == 1])


class Cubics(Case):
    def test_integers(self):
        for level, wanted in KNOWN.items():
            self.same(cubic_of(level), wanted)

    def test_points(self):
        for level in CUBIC_LEVELS:
            for prime in proper_primes(level):
                wanted = tried_points(level, prime)
                self.same(points_of(level, prime), wanted)
                self.same([count_points(level, prime), cubic_number(level, prime)],
                          [len(wanted) + 1, prime - len(wanted)])
                self.assertLess(cubic_number(level, prime) ** 2, 4 * prime)

    def test_numbers(self):
        """[14.6]: against the traces, what T_p does and the eta products."""
        for level in CUBIC_LEVELS:
            (kind,) = kinds(Space(level))
            row = eta_product(EIGHT[level], 98).whole() if level in EIGHT else None
            for prime in proper_primes(level):
                found = cubic_number(level, prime)
                self.same(found, trace_of(level, prime))
                if prime < 60:
                    self.same(found, kind.value_of(prime))
                if row:
                    self.same(found, row[prime])

    def test_refused(self):
        for level in NO_LEVELS:
            self.refused(InvalidLevel, cubic_of, level)
            for call in CALLS:
                self.refused(InvalidLevel, call, level, 2)
                self.refused(InvalidLevel, call, level, None)
        for value in NO_PRIMES:
            for level in (11, 12):
                for call in CALLS:
                    self.refused(InvalidPrime, call, level, value)
        for level in range(1, 101):
            if level not in CUBIC_LEVELS:
                self.refused(InvalidOperation, cubic_of, level)
            for prime in (2, 3, 5, 7, 11, 17, 19):
                if level not in CUBIC_LEVELS or level % prime == 0:
                    for call in CALLS:
                        self.refused(InvalidOperation, call, level, prime)


class Statements(Case):
    def test_what_is_not_true(self):
        """[14.7]: an entry 0 at a prime."""
        self.same([cubic_number(17, 3), cubic_number(49, 5), cubic_number(27, 2)], [0, 0, 0])


if __name__ == "__main__":
    unittest.main()
