"""[2.2] to [2.5]: tables."""

import random
import unittest
from fractions import Fraction
from itertools import permutations

from levelroads.base import tables as module
from levelroads.base.ratios import Ratio
from levelroads.base.tables import (
    determinant_of, echelon, is_free, kernel_of, polynomial_of, rank_of, restricted, table_of, table_product,
)
from levelroads.errors import InvalidOperation, InvalidTable, Refused, TooMany
from support import NO_INTEGERS, SIXTY, SIXTY_ONE, Case, ratios, texts

TABLE = table_of(((1, 2, 0), (2, 4, 0), (0, 0, 3)))
ONE, ZERO = Ratio(1), Ratio(0)
NO_TABLES = tuple(value for value in NO_INTEGERS if value != ()) + (
    0, 1, (1, 2), ((1, 2), (3, 4)), ((ONE, 1),), ((ONE,), (ONE, ONE)), ((ONE,), ()), ((), (ONE,)), [(ONE,)], ([ONE],),
    (ONE,), (((ONE,),),), ((ONE,), [ONE]), ((ONE, True),), ((ONE, None),), ((ONE,), ONE), ((ONE,),) * 241,
    ((ONE,) * 241,), ((),) * 241, ((ONE, ONE),) * 240 + ((ONE,),), ("a",), ((ONE, "1"),),
)


def fractions_of(table):
    return [[Fraction(entry.top, entry.bottom) for entry in row] for row in table]


def table_from(rows):
    wanted = []
    for row in rows:
        wanted.append(tuple(Ratio(entry.numerator).over(Ratio(entry.denominator)) for entry in row))
    return tuple(wanted)


def plain_echelon(rows):
    """The echelon of rows of fractions, by steps on all rows, and the columns of its ones."""
    rows, columns = [list(row) for row in rows], []
    for column in range(len(rows[0]) if rows else 0):
        at = next((k for k in range(len(columns), len(rows)) if rows[k][column]), None)
        if at is not None:
            top = len(columns)
            rows[top], rows[at] = rows[at], rows[top]
            lead = rows[top][column]
            rows[top] = [entry / lead for entry in rows[top]]
            for k, row in enumerate(rows):
                if k != top:
                    rows[k] = [entry - row[column] * other for entry, other in zip(row, rows[top])]
            columns.append(column)
    return rows[:len(columns)], columns


def plain_product(one, other):
    return [[sum((a * b for a, b in zip(row, column)), Fraction(0)) for column in zip(*other)] for row in one]


def plain_determinant(rows):
    total = Fraction(0)
    for order in permutations(range(len(rows))):
        signs = sum(1 for k, a in enumerate(order) for b in order[:k] if b > a)
        product = Fraction((-1) ** signs)
        for k, at in enumerate(order):
            product *= rows[k][at]
        total += product
    return total


class Tables(Case):
    def setUp(self):
        self.random = random.Random(20)

    def ratio(self, size=4):
        return Ratio(self.random.randint(-size, size), self.random.randint(1, size))

    def table(self, rows, columns, size=4):
        return tuple(tuple(self.ratio(size) for _ in range(columns)) for _ in range(rows))

    def mixed(self, rows, columns, rank):
        """A table of so many rows that are mixes of `rank` ones."""
        return table_product(self.table(rows, rank), self.table(rank, columns)) if rank else table_of(
            ((0,) * columns,) * rows)

    def many_tables(self):
        for rows in range(6):
            for columns in range(6):
                yield self.table(rows, columns)
                yield table_of(((0,) * columns,) * rows)
                for rank in range(min(rows, columns)):
                    yield self.mixed(rows, columns, rank)


class Examples(Case):
    def test_examples(self):
        self.same((texts(echelon(TABLE)), texts(kernel_of(TABLE)), rank_of(TABLE)),
                  ([["1", "2", "0"], ["0", "0", "1"]], [["1", "-1/2", "0"]], 2))
        self.same(
            [str(determinant_of(TABLE)), [str(one) for one in polynomial_of(TABLE)], echelon(()),
             is_free(TABLE, (TABLE[0],)), is_free(TABLE, TABLE)],
            ["0", ["0", "15", "-8", "1"], (), True, False])
        self.assertIs(restricted(TABLE, table_of(((1, 2, 0),))) == table_of(((5,),)), True)
        self.refused_with(Refused, "reason", ("left", 0), restricted, TABLE, table_of(((1, 0, 0),)))

    def test_constants(self):
        self.same([module.MAX_ROWS, module.MAX_SQUARE], [240, 40])


class Making(Case):
    def test_table_of(self):
        rows = ((1, Ratio(1, 2)), (-SIXTY, Ratio(0)))
        table = table_of(rows)
        self.assertEqual(texts(table), [["1", "1/2"], ["-" + "9" * 60, "0"]])
        self.assertTrue(all(type(entry) is Ratio for row in table for entry in row))
        self.assertEqual(table_of(table), table)
        self.same([table_of(()), table_of(((),)), table_of(((), ()))], [(), ((),), ((), ())])

    def test_sizes(self):
        table = table_of(((1,) * 240,) * 240)
        self.assertEqual((len(table), len(table[239])), (240, 240))
        self.assertEqual(len(table_of(((),) * 240)), 240)
        for rows in (((1,) * 241,), ((1,),) * 241, ((),) * 241, ((1,) * 241,) * 241):
            self.refused(InvalidTable, table_of, rows)

    def test_other_values(self):
        for value in NO_INTEGERS + (
                1, (1, 2), ((1,), (1, 2)), ((1,), ()), [(1,)], ([1],), ((1,), [1]), ((1,), 1), (((1,),),)):
            if value != ():
                self.refused(InvalidTable, table_of, value)
        for value in NO_INTEGERS:
            if not isinstance(value, Ratio):
                self.refused(InvalidTable, table_of, ((1, value),))
                self.refused(InvalidTable, table_of, ((1, 2), (value, 3)))
        self.refused(InvalidTable, table_of, ((SIXTY_ONE,),))


class Checks(Case):
    def test_invalid_tables(self):
        for value in NO_TABLES:
            for call in (echelon, rank_of, kernel_of, determinant_of, polynomial_of):
                self.refused(InvalidTable, call, value)
            for call in (table_product, restricted):
                self.refused(InvalidTable, call, value, value)
                self.refused(InvalidTable, call, TABLE, value)
                self.refused(InvalidTable, call, value, TABLE)
                # Ahead of what is wrong between both.
                self.refused(InvalidTable, call, TABLE[:1], value)
                self.refused(InvalidTable, call, value, TABLE[:2])
            self.refused(InvalidTable, is_free, value, TABLE)
            self.refused(InvalidTable, is_free, value, None)

    def test_tables_are_not_judged_by_what_made_them(self):
        long = Ratio(SIXTY).times(SIXTY)
        table = ((long, ONE), (ZERO, long))
        self.assertEqual(determinant_of(table), long.times(long))
        self.assertEqual(table_of(table), table)


class Echelons(Tables):
    def test_echelons(self):
        for table in self.many_tables():
            rows, columns = plain_echelon(fractions_of(table))
            self.assertEqual(echelon(table), table_from(rows))
            self.assertEqual(rank_of(table), len(columns))
            self.assertIs(type(echelon(table)), tuple)

    def test_same_mixes(self):
        for _ in range(40):
            table = self.mixed(3, 5, 2)
            turned = table_product(self.table(4, 3), table)
            if rank_of(turned) == rank_of(table):
                self.assertEqual(echelon(turned), echelon(table))
            self.assertEqual(echelon(table[::-1] + (table[0],)), echelon(table))
            self.assertEqual(echelon(echelon(table)), echelon(table))

    def test_edges(self):
        for table in ((), ((),), ((), ()), table_of(((0, 0), (0, 0))), table_of(((0,),))):
            self.same(echelon(table), ())
            self.same(rank_of(table), 0)
        self.assertEqual(echelon(table_of(((0, 0, -3),))), table_of(((0, 0, 1),)))
        self.assertEqual(echelon(table_of(((SIXTY, 1), (1, -SIXTY)))), table_of(((1, 0), (0, 1))))

    def test_long_ratios(self):
        table = ((Ratio(SIXTY, 7), Ratio(1, SIXTY), Ratio(3)), (Ratio(1 - SIXTY, SIXTY), Ratio(-5), Ratio(2, 3)))
        rows, _ = plain_echelon(fractions_of(table))
        self.assertEqual([[Fraction(entry.top, entry.bottom) for entry in row] for row in echelon(table)], rows)

    def test_great_tables(self):
        ones = table_of(tuple(tuple(1 if k == at else 0 for k in range(240)) for at in range(240)))
        self.assertEqual(echelon(ones[::-1]), ones)
        self.assertEqual(rank_of(ones), 240)
        self.same(kernel_of(ones), ())
        many = table_of(tuple(tuple((row + 1) * (column + 2) for column in range(240)) for row in range(240)))
        self.assertEqual(echelon(many), (tuple(Ratio(column + 2, 2) for column in range(240)),))
        self.assertEqual(len(kernel_of(many)), 239)
        full = table_of(tuple(tuple(self.random.randint(-9, 9) for _ in range(60)) for _ in range(70)))
        self.assertEqual(echelon(full), table_of(tuple(tuple(int(k == at) for k in range(60)) for at in range(60))))
        self.assertEqual(rank_of(full + (full[0],)), 60)
        lesser = tuple(row + (row[3].plus(row[7]),) for row in full)
        self.assertEqual(rank_of(lesser), 60)
        last = tuple(row[60] for row in echelon(lesser))
        self.assertEqual([k for k in range(60) if last[k] == ONE], [3, 7])

    def test_wide_tables_of_lesser_rank(self):
        for width in (49, 50, 51, 55):
            for place in (0, 20, width - 1):
                rows = [[self.random.randint(-9, 9) for _ in range(width)] for _ in range(width + 3)]
                self.assertEqual(rank_of(table_of(tuple(tuple(row) for row in rows))), width)
                self.assertIs(module._is_surely_full(rows, width), True)
                for row in rows:
                    row[place] = 2 * row[(place + 5) % width] - row[(place + 9) % width]
                self.assertIs(module._is_surely_full(rows, width), False)
                table = table_of(tuple(tuple(row) for row in rows))
                columns = tuple(zip(*table))
                for one in (table, columns):
                    self.assertEqual(rank_of(one), width - 1)
                    self.assertEqual(len(echelon(one)), width - 1)
                kernel = kernel_of(columns)
                self.assertEqual(len(kernel), 1)
                self.assertEqual(len([entry for entry in kernel[0] if entry != ZERO]), 3)

    def test_what_a_great_prime_number_divides(self):
        prime = 2 ** 61 - 1
        rows = tuple(tuple(prime if k == at == 30 else int(k == at) for k in range(60)) for at in range(60))
        table = table_of(rows)
        self.assertEqual(rank_of(table), 60)
        self.assertEqual(echelon(table), table_of(tuple(tuple(int(k == at) for k in range(60)) for at in range(60))))
        self.same(kernel_of(table), ())


class Kernels(Tables):
    def test_kernels(self):
        for table in self.many_tables():
            kernel = kernel_of(table)
            self.assertEqual(echelon(kernel), kernel)
            self.assertEqual(len(kernel), len(table) - rank_of(table))
            self.assertTrue(all(len(row) == len(table) for row in kernel))
            for row in plain_product(fractions_of(kernel), fractions_of(table)):
                self.assertEqual(set(row) - {0}, set())

    def test_edges(self):
        self.same(kernel_of(()), ())
        self.assertEqual(kernel_of(((), ())), table_of(((1, 0), (0, 1))))
        self.assertEqual(kernel_of(table_of(((0, 0, 0),))), table_of(((1,),)))
        self.same(kernel_of(table_of(((0, 5, 0),))), ())
        self.assertEqual(len(kernel_of(((),) * 240)), 240)


class Products(Tables):
    def test_products(self):
        for rows in range(4):
            for middle in range(1, 4):
                for columns in range(4):
                    one, other = self.table(rows, middle), self.table(middle, columns)
                    wanted = plain_product(fractions_of(one), fractions_of(other))
                    self.assertEqual(table_product(one, other), table_from(wanted))

    def test_edges(self):
        for other in ((), ((),), TABLE, table_of(((1,),))):
            self.same(table_product((), other), ())
        self.same(table_product(((), ()), ()), ((), ()))
        self.same(table_product(table_of(((1, 2),)), ((), ())), ((),))
        for one, other in ((TABLE, TABLE[:2]), (TABLE[:1], ()), (((),), TABLE), (((),), ((),)), (TABLE, ((),))):
            self.refused(InvalidOperation, table_product, one, other)

    def test_great_products(self):
        one = table_of(((1,) * 240,) * 240)
        self.assertEqual(table_product(one, one), table_of(((240,) * 240,) * 240))


class Determinants(Tables):
    def test_determinants(self):
        for size in range(6):
            for _ in range(6):
                table = self.table(size, size)
                wanted = plain_determinant(fractions_of(table))
                self.assertEqual(determinant_of(table), Ratio(wanted.numerator, wanted.denominator))
                self.check_polynomial(table)
                lesser = self.mixed(size, size, max(size - 1, 0))
                self.assertEqual(determinant_of(lesser), ONE if size == 0 else ZERO)
                self.check_polynomial(lesser)

    def check_polynomial(self, table):
        """The polynomial at some integers, by the determinant of what is told in [2.4]."""
        entries = polynomial_of(table)
        self.assertIs(type(entries), tuple)
        self.assertEqual(len(entries), len(table) + 1)
        self.assertEqual(entries[-1], ONE)
        rows = fractions_of(table)
        for x in range(len(table) + 1):
            less = [[(x if k == at else 0) - entry for at, entry in enumerate(row)] for k, row in enumerate(rows)]
            value = sum(Fraction(entry.top, entry.bottom) * x ** k for k, entry in enumerate(entries))
            self.assertEqual(value, plain_determinant(less))

    def test_signs_and_exchanges(self):
        self.assertEqual(determinant_of(table_of(((0, 1), (1, 0)))), Ratio(-1))
        self.assertEqual(determinant_of(table_of(((0, 0, 1), (1, 0, 0), (0, 1, 0)))), ONE)
        self.assertEqual(determinant_of(table_of(((0, 0, 2), (0, 3, 0), (5, 0, 0)))), Ratio(-30))

    def test_edges(self):
        self.assertEqual((determinant_of(()), polynomial_of(())), (ONE, (ONE,)))
        self.assertEqual(polynomial_of(table_of(((7,),))), (Ratio(-7), ONE))
        self.assertEqual(polynomial_of(ratios(("1/2", 0), (0, "-2/3"))), ratios(("-1/3", "1/6", 1))[0])

    def test_forty(self):
        rows = [[(k if k == at else 0) + (2 if at == k + 1 else 0) for at in range(40)] for k in range(40)]
        self.assertEqual(determinant_of(table_of(tuple(tuple(row) for row in rows))), ZERO)
        rows[0][0] = 1
        table = table_of(tuple(tuple(row) for row in rows))
        product, poly = 1, [1]
        for k in range(40):
            product *= max(k, 1)
            poly = [a - max(k, 1) * b for a, b in zip([0] + poly, poly + [0])]
        self.assertEqual(determinant_of(table), Ratio(product))
        self.assertEqual([str(entry) for entry in polynomial_of(table)], [str(entry) for entry in poly])
        mixed = self.table(40, 40)
        self.assertEqual(polynomial_of(mixed)[0], determinant_of(mixed))

    def test_errors(self):
        for call in (determinant_of, polynomial_of):
            for table in (TABLE[:2], ((),), ((), ()), table_of(((1, 2),)), table_of(((1,) * 40,) * 41)):
                self.refused(InvalidOperation, call, table)
            self.refused(InvalidOperation, call, table_of(((1,) * 41,) * 42))
            for size in (41, 240):
                self.refused_with(TooMany, "limit", 40, call, table_of(((1,) * size,) * size))


class Restricted(Tables):
    def test_restricted(self):
        for size in range(1, 6):
            for many in range(size + 1):
                # Let the table do something told on the first rows of a base.
                base = self.table(size, size)
                while rank_of(base) < size:
                    base = self.table(size, size)
                upper = tuple(row + (ZERO,) * (size - many) for row in self.table(many, many))
                inner = upper + self.table(size - many, size)
                back = restricted(base, table_of(tuple(tuple(int(k == at) for k in range(size)) for at in range(size))))
                self.assertEqual(back, base)
                table = table_product(self.inverse(base), table_product(inner, base))
                rows = base[:many]
                told = restricted(table, rows)
                self.assertEqual(told, tuple(row[:many] for row in upper))
                self.assertEqual(table_product(rows, table), table_product(told, rows) if many else ())

    def inverse(self, base):
        size = len(base)
        rows = tuple(row + tuple(Ratio(int(k == at)) for k in range(size)) for at, row in enumerate(base))
        return tuple(row[size:] for row in echelon(rows))

    def test_left(self):
        table = table_of(((1, 0, 0), (0, 0, 1), (0, 0, 0)))
        self.refused_with(Refused, "reason", ("left", 1), restricted, table, table_of(((1, 0, 0), (0, 1, 0))))
        self.refused_with(Refused, "reason", ("left", 0), restricted, table, table_of(((0, 1, 0), (1, 0, 0))))
        self.refused_with(Refused, "reason", ("left", 0), restricted, table, table_of(((1, 1, 0),)))
        self.assertEqual(restricted(table, table_of(((0, 1, 0), (0, 0, 1)))), table_of(((0, 1), (0, 0))))
        self.assertEqual(restricted(table, table_of(((0, 0, 2),))), table_of(((0,),)))

    def test_edges(self):
        for table in ((), TABLE, table_of(((5,),))):
            self.same(restricted(table, ()), ())
        for table in (TABLE[:2], ((),), ((), ())):
            self.refused(InvalidOperation, restricted, table, ())
            self.refused(InvalidOperation, restricted, table, ((),))
        self.refused(InvalidOperation, restricted, (), ((),))
        self.refused(InvalidOperation, restricted, TABLE, ((),))
        for rows in (((1, 2),), ((1, 2, 0, 0),), ((0, 0, 0),), ((1, 2, 0), (2, 4, 0)), ((1, 0, 0),) * 2,
                     ((1, 0, 0), (0, 1, 0), (0, 0, 1), (1, 1, 1))):
            self.refused(InvalidOperation, restricted, TABLE, table_of(rows))

    def test_great(self):
        ones = table_of(tuple(tuple(int(k == at) for k in range(240)) for at in range(240)))
        turned = ones[1:] + ones[:1]
        self.assertEqual(restricted(turned, ones), turned)


class Free(Tables):
    def test_free(self):
        for table in self.many_tables():
            kernel = kernel_of(table)
            for value in (echelon(table), (), kernel, table):
                is_mixed = not value or (len(table) > 0 and len(value[0]) == len(table[0])
                                         and rank_of(table + value) == rank_of(table))
                self.assertIs(is_free(table, value), rank_of(value) == len(value) and is_mixed)
            self.assertIs(is_free(table, echelon(table)), True)

    def test_judged(self):
        self.same([is_free(TABLE, table_of(rows)) for rows in (
            ((1, 2, 3),), ((1, 2, 3), (1, 2, 4)), ((0, 0, 1), (1, 2, 3), (2, 4, 0)), ((0, 0, 0),), ((1, 0, 0),),
            ((1, 2),), ((),), ((1, 2, 0, 0),), ((3, 6, -9),) * 2)],
            [True, True, False, False, False, False, False, False, False])
        self.same([is_free((), value) for value in ((), ((),), table_of(((0,),)), table_of(((1,),)))],
                  [True, False, False, False])
        self.same([is_free(((), ()), value) for value in ((), ((),), table_of(((1,),)))], [True, False, False])

    def test_other_values(self):
        for value in NO_TABLES + (ONE, TABLE[0], [TABLE[0]], list(TABLE[:1]), ((1, 2, 0),)):
            self.assertIs(is_free(TABLE, value), False)


class Statements(Tables):
    """[2.5]"""

    def test_table_in_its_polynomial(self):
        for size in range(1, 6):
            table = self.table(size, size)
            power = table_of(tuple(tuple(int(k == at) for k in range(size)) for at in range(size)))
            total = table_of(((0,) * size,) * size)
            for factor in polynomial_of(table):
                total = tuple(tuple(entry.plus(other.times(factor)) for entry, other in zip(row, more))
                              for row, more in zip(total, power))
                power = table_product(power, table)
            self.assertEqual(total, table_of(((0,) * size,) * size))

    def test_exchanged_products(self):
        for size in range(1, 6):
            one, other = self.table(size, size), self.mixed(size, size, max(size - 1, 1))
            self.assertEqual(polynomial_of(table_product(one, other)), polynomial_of(table_product(other, one)))

    def test_arguments_stay(self):
        rows = ((3, 6), (1, 2))
        table = table_of(rows)
        for call in (echelon, rank_of, kernel_of, determinant_of, polynomial_of):
            first = call(table)
            self.assertEqual(call(table), first)
        self.assertEqual(table, table_of(rows))
        self.assertEqual(rows, ((3, 6), (1, 2)))


if __name__ == "__main__":
    unittest.main()
