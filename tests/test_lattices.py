"""The steps behind lots: least rows, short rows, elements of a norm."""

import random
import unittest
from fractions import Fraction
from itertools import product

from levelroads.quat.lattices import all_of_norm, combined, dot, is_within, short_rows, triangle_of
from levelroads.quat.lots import rows_between
from levelroads.quat.quaternions import Order
from support import Case
from test_lots import is_told_by, plain_rows, random_lot


def drawn_rows(chance, many, width, size):
    return [tuple(chance.randint(-size, size) for _ in range(width)) for _ in range(many)]


def pairing(order, x, y):
    return sum(a * entry * b for a, row in zip(x, order.pairings) for entry, b in zip(row, y))


class Triangles(Case):
    def test_triangles(self):
        chance = random.Random(211)
        for width in (4, 8):
            for size in (1, 5, 10 ** 12):
                for many in (width - 1, width, width + 5):
                    rows = drawn_rows(chance, many, width, size)
                    self.same(triangle_of(rows, width), plain_rows(rows, width))
        self.same([triangle_of([], 4), triangle_of([(0, 0, 0, 0)], 4)], [None, None])

    def test_within(self):
        chance = random.Random(212)
        for _ in range(100):
            rows = triangle_of(drawn_rows(chance, 6, 4, 4), 4)
            for x in drawn_rows(chance, 4, 4, 30) + list(rows):
                self.assertIs(is_within(rows, x), is_told_by(rows, x))


class ShortRows(Case):
    def lattices(self):
        chance = random.Random(213)
        for prime in (2, 3, 11, 17, 23, 97):
            for _ in range(6):
                yield Order(prime), rows_between(random_lot(chance, prime, 6), random_lot(chance, prime, 6))
            yield Order(prime), triangle_of(drawn_rows(chance, 4, 4, 10 ** 12), 4)

    def test_short_rows(self):
        for order, rows in self.lattices():
            short, table = short_rows(rows, order.pairings)
            self.assertEqual(triangle_of(short, 4), rows)
            self.assertEqual(table, [[pairing(order, x, y) for y in short] for x in short])
            squares = [table[k][k] for k in range(4)]
            self.assertEqual(squares, sorted(squares))
            # What each one has of what is new in those ahead of it is at most half of it.
            steps = []
            for row in short:
                rest = [Fraction(part) for part in row]
                for step in steps:
                    share = pairing(order, row, step) / pairing(order, step, step)
                    self.assertLessEqual(abs(share), Fraction(1, 2))
                    rest = [part - share * less for part, less in zip(rest, step)]
                steps.append(rest)

    def test_norms(self):
        """All elements of small norms, of lattices whose elements have no lesser ones than the order's."""
        for order, rows in self.lattices():
            short, table = short_rows(rows, order.pairings)
            least = table[0][0] // 2
            for number in (0, least, least + 1, 2 * least):
                found = [tuple(combined(many, short)) for many in all_of_norm(table, number)]
                self.assertTrue(all(pairing(order, x, x) == 2 * number for x in found))
                self.assertEqual(len(found), len(set(found)))
                near = [tuple(combined(many, short)) for many in product((-2, -1, 0, 1, 2), repeat=4)]
                wanted = {x for x in near if pairing(order, x, x) == 2 * number}
                self.assertLessEqual(wanted, set(found))
            self.same(dot((1, 2, 3, 4), (5, 6, 7, 8)), 70)


if __name__ == "__main__":
    unittest.main()
