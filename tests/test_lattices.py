"""The steps behind lots: least rows, short rows, elements of a norm, and what tells the class of a lot."""

import random
import unittest
from itertools import product

from levelroads.quat.bases import order_facts
from levelroads.quat.classes import (
    WHOLE, are_rows, lattice_rows, pairings_between, papers_of, rows_of_classes, rows_within, shape_of, shapes_of_full,
    short_between, size_of)
from levelroads.quat.lattices import all_of_norm, combined, count_of_norm, dot, is_within, short_rows, triangle_of
from levelroads.quat.lots import are_alike_lots, lot_of, rows_between
from levelroads.quat.quaternions import Order
from support import Case
from test_lots import FULL, is_told_by, plain_between, plain_rows, random_element, random_lot
from test_quaternions import PRIMES


def drawn_rows(chance, many, width, size):
    return [tuple(chance.randint(-size, size) for _ in range(width)) for _ in range(many)]


def pairing(order, x, y):
    return sum(a * entry * b for a, row in zip(x, order.pairings) for entry, b in zip(row, y))


def told_table(order, rows):
    return [[pairing(order, x, y) for y in rows] for x in rows]


class Triangles(Case):
    def test_triangles(self):
        chance = random.Random(211)
        for width in (4, 8):
            for size in (1, 5, 10 ** 12, 10 ** 59):
                for many in (width - 1, width, width + 5):
                    rows = drawn_rows(chance, many, width, size)
                    self.same(triangle_of(rows, width), plain_rows(rows, width))
        self.same([triangle_of([], 4), triangle_of([(0, 0, 0, 0)], 4)], [None, None])

    def test_told_triangles(self):
        """Rows that are multiples of others, zeros, and rows of a triangle with other signs."""
        chance = random.Random(214)
        for _ in range(60):
            rows = drawn_rows(chance, 4, 4, 6)
            more = rows + [tuple(-3 * entry for entry in rows[0]), (0, 0, 0, 0)] + rows[::-1]
            self.same(triangle_of(more, 4), plain_rows(rows))
        told = [(0, 0, 0, -5), (0, 0, -4, 7), (0, -3, 9, 9), (-2, 8, 8, 8)]
        self.same(triangle_of(told, 4), ((2, 1, 1, 2), (0, 3, 3, 0), (0, 0, 4, 3), (0, 0, 0, 5)))
        self.same(triangle_of(told[::-1], 4), triangle_of(told, 4))

    def test_within(self):
        chance = random.Random(212)
        for _ in range(100):
            rows = triangle_of(drawn_rows(chance, 6, 4, 4), 4)
            for x in drawn_rows(chance, 4, 4, 30) + list(rows):
                self.assertIs(is_within(rows, x), is_told_by(rows, x))


class ShortRows(Case):
    def lattices(self):
        chance = random.Random(213)
        for prime in (2, 3, 11, 17, 23, 97):
            for _ in range(6):
                yield Order(prime), rows_between(random_lot(chance, prime, 6), random_lot(chance, prime, 6))
            yield Order(prime), triangle_of(drawn_rows(chance, 4, 4, 10 ** 12), 4)

    def test_short_rows(self):
        for order, rows in self.lattices():
            short, table = short_rows(rows, told_table(order, rows))
            self.assertEqual(triangle_of(short, 4), rows)
            self.assertEqual(table, told_table(order, short))
            # No row becomes shorter if another one is taken from it or added to it.
            for k, row in enumerate(table):
                for at, entry in enumerate(row):
                    self.assertTrue(at == k or 2 * abs(entry) <= table[at][at])
            again = short_rows(short, table)
            self.assertEqual(again, (short, table))

    def test_norms(self):
        """All elements of small norms, of lattices whose elements have no lesser ones than the order's."""
        for order, rows in self.lattices():
            short, table = short_rows(rows, told_table(order, rows))
            least = min(table[k][k] for k in range(4)) // 2
            for number in (0, least, least + 1, 2 * least):
                found = [tuple(combined(many, short)) for many in all_of_norm(table, number)]
                self.assertTrue(all(pairing(order, x, x) == 2 * number for x in found))
                self.assertEqual(len(found), len(set(found)))
                near = [tuple(combined(many, short)) for many in product((-2, -1, 0, 1, 2), repeat=4)]
                wanted = {x for x in near if pairing(order, x, x) == 2 * number}
                self.assertLessEqual(wanted, set(found))
            self.same(dot((1, 2, 3, 4), (5, 6, 7, 8)), 70)

    def test_counts(self):
        """As many elements of a norm as there are, whatever the basis."""
        for prime in PRIMES:
            pairings = order_facts(prime)[2]
            _, short = short_rows(WHOLE, pairings)
            for number in list(range(1, 31)) + [60, 99, 400]:
                self.same(count_of_norm(short, number), len(Order(prime).elements_of(number)))
                if number < 13:
                    self.same(count_of_norm(pairings, number), count_of_norm(short, number))
        for order, rows in self.lattices():
            table = told_table(order, rows)
            _, short = short_rows(rows, table)
            for number in (1, 2, short[0][0] // 2, short[0][0], short[1][1] // 2 + short[2][2] // 2):
                self.same(count_of_norm(short, number), len(all_of_norm(short, number)))


class Classes(Case):
    def test_facts(self):
        for prime in PRIMES:
            order = Order(prime)
            self.same(order_facts(prime), (order.one, order.products, order.pairings))
            for r, row in enumerate(order.products):
                for s, told in enumerate(row):
                    x, y = WHOLE[r], WHOLE[s]
                    self.same([order.norm_of(told), order.trace_of(told)],
                              [order.norm_of(x) * order.norm_of(y), told[0]])
                    self.same(order.pairing(x, y), order.trace_of(order.multiplied(x, order.conjugated(y))))

    def test_least_lots(self):
        """The shape of a lot is that of each one alike to it, and of no other one; it tells the units, too."""
        chance = random.Random(215)
        for prime in PRIMES:
            facts = order_facts(prime)
            shapes = [shape_of(facts, lot.rows) for lot in FULL[prime]]
            self.assertEqual(len({shape[0] for shape in shapes}), len(shapes))
            for lot in [random_lot(chance, prime, 4) for _ in range(4)] + list(FULL[prime]):
                least, units, pairings = shape_of(facts, lot.rows)
                self.assertTrue(least == WHOLE or are_rows(facts, least))
                self.same(units, len(lot))
                alike = [are_alike_lots(lot, other) for other in FULL[prime]]
                self.assertEqual([least == shape[0] for shape in shapes], alike)
                self.assertEqual(units, shapes[alike.index(True)][1])
                self.assertIs(are_alike_lots(lot, lot_of(prime, least)), True)
                # No lot that is alike has a lesser norm: its conjugated papers would be lesser elements of the lot.
                norm = size_of(least)
                self.assertEqual([count_of_norm(pairings, number) for number in range(1, norm)], [0] * (norm - 1))
                self.assertGreater(count_of_norm(pairings, norm), 0)
                y = random_element(chance, 2)
                if any(y) and Order(prime).norm_of(y) * lot.size <= 10000:
                    self.same(shape_of(facts, lot.behind(y).rows)[:2], (least, units))

    def test_lattices(self):
        chance = random.Random(216)
        for prime in PRIMES:
            facts = order_facts(prime)
            for _ in range(4):
                one, other = random_lot(chance, prime, 5), random_lot(chance, prime, 5)
                self.same(lattice_rows(facts, one.rows, other.rows), plain_between(one, other))
                first, second = shape_of(facts, one.rows), shape_of(facts, other.rows)
                for number in (1, 2, 3, 7):
                    wanted = count_of_norm(short_between(facts, one.rows, other.rows)[1], number)
                    self.same(count_of_norm(pairings_between(facts, first, second), number), wanted)
                    self.same(count_of_norm(pairings_between(facts, second, first), number), wanted)
                papers = papers_of(facts, one.rows, other.rows)
                self.same(len(papers), len(other) if are_alike_lots(one, other) else 0)

    def test_norms_of_several_primes(self):
        """Lattices between lots whose norms no element tells by one prime alone."""
        chance = random.Random(217)
        for prime in (11, 17, 29, 97):
            for _ in range(6):
                one = FULL[prime][0]
                for side in (2, 3, 5, 7):
                    lots = rows_within(order_facts(prime), one.rows, side, side + 1)
                    one = lot_of(prime, chance.choice(lots))
                self.same(one.size, 210)
                self.same(rows_between(one, one), plain_between(one, one))
                self.same(rows_between(one, FULL[prime][-1]), plain_between(one, FULL[prime][-1]))

    def test_full_lists(self):
        for prime in PRIMES:
            facts = order_facts(prime)
            rows = rows_of_classes(facts, prime)
            self.assertEqual(rows, [lot.rows for lot in FULL[prime]])
            shapes = shapes_of_full(facts, prime, rows)
            self.assertEqual(shapes, [shape_of(facts, one) for one in rows])
            self.assertIs(shapes_of_full(facts, prime, rows[:-1]), None)
            self.assertIs(shapes_of_full(facts, prime, rows + rows[:1]), None)
            if len(rows) > 1:
                self.assertIs(shapes_of_full(facts, prime, rows[:-1] + rows[:1]), None)


if __name__ == "__main__":
    unittest.main()
