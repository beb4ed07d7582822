"""[14.1] to [14.4], [14.7], [0.20], [0.22]: rows of a level."""

import random
import unittest
from math import gcd

from levelroads.base.numbers import divisors
from levelroads.base.ratios import Ratio
from levelroads.base.tables import echelon, is_free, kernel_of, rank_of, table_of, table_product
from levelroads.doing.doings import doing_table
from levelroads.errors import InvalidCount, InvalidLevel, InvalidOperation, InvalidRow, Refused
from levelroads.kind.kinds import kinds
from levelroads.pair.pairs import count_pairs
from levelroads.rim.groups import genus
from levelroads.row import forms as module
from levelroads.row.forms import first_difference, form_bound, form_rows, is_form_row, row_with
from levelroads.row.rows import eta_product
from levelroads.symbol.symbols import Space
from levelroads.trace.traces import trace_of
from support import NO_INTEGERS, NO_LEVELS, SIXTY, Case, is_echelon, random_ratio
from test_rows import EIGHT

LEVELS = list(range(1, 41)) + [43, 46, 49, 54, 57, 60, 64, 66, 72, 78, 84, 90, 95, 96, 97, 98, 100]
SPACES = {level: Space(level) for level in LEVELS}
ROWS = {level: form_rows(space, 60) for level, space in SPACES.items()}
ELEVEN, TWELVE, TWENTY_TWO, TWENTY_THREE = (SPACES[level] for level in (11, 12, 22, 23))
NO_SPACES = NO_INTEGERS + (0, 11, "space of level 11", [ELEVEN], ELEVEN.zero)
NO_SIZES = NO_INTEGERS + (0, -1, 61, SIXTY)
ONE, TWO, ZERO = Ratio(1), Ratio(2), Ratio(0)
NO_ROWS = NO_INTEGERS[:-5] + (
    0, "", (1,), (ONE, 2), [ONE], [ONE, TWO], (ONE, None), (ONE, True), ((ONE,),), (ONE,) * 61, ELEVEN, ONE, "1/2",
    ELEVEN.zero, {1: ONE})
NO_ROWS = tuple(value for value in NO_ROWS if not (isinstance(value, tuple) and value and all(
    isinstance(entry, Ratio) for entry in value) and len(value) < 61))


def proper(level, numbers):
    return [number for number in numbers if gcd(number, level) == 1]


def plain_rows(space, size):
    """The echelon of all places of the tables of all doings."""
    tables = [doing_table(space, number, part="staying") for number in range(1, size + 1)]
    many = len(tables[0])
    rows = [tuple(table[r][s] for table in tables) for r in range(many) for s in range(many)]
    return echelon(tuple(rows))


def mix(chance, rows):
    mixed = [ZERO] * len(rows[0])
    for row in rows:
        many = random_ratio(chance)
        mixed = [entry.plus(part.times(many)) for entry, part in zip(mixed, row)]
    return tuple(mixed)


def led(level, row, number):
    """What T_n makes of a row [14.3], by [0.16]: the entries from 1 on that are known."""
    found = []
    for m in range(1, len(row) // number + 1):
        entry = ZERO
        for d in divisors(gcd(m, number)):
            if gcd(d, level) == 1:
                entry = entry.plus(row[m * number // (d * d) - 1].times(d))
        found.append(entry)
    return tuple(found)


class Examples(Case):
    def test_examples(self):
        self.same([form_bound(11), form_bound(22), form_bound(1), form_rows(TWELVE, 10)], [2, 6, 0, ()])
        self.assertEqual(form_rows(ELEVEN, 12), table_of(((1, -2, -1, 2, 1, 2, -2, 0, -2, -2, 1, -2),)))
        self.assertEqual(form_rows(TWENTY_TWO, 8),
                         table_of(((1, 0, -1, -2, 1, 0, -2, 4), (0, 1, 0, -2, 0, -1, 0, 2))))
        self.assertEqual(form_rows(TWENTY_THREE, 7), table_of(((1, 0, -1, -1, 0, -2, 2), (0, 1, -2, -1, 2, 1, 2))))
        row = table_of(((1, -2, -1, 2, 1, 2, -2, 0),))[0]
        self.same([is_form_row(ELEVEN, row), is_form_row(TWENTY_TWO, row), is_form_row(TWENTY_THREE, row),
                   row_with(ELEVEN, row[:2], 8) == row, first_difference(row, row),
                   first_difference(row, row[:7] + (Ratio(1),))], [True, True, False, True, None, 8])
        self.refused_with(Refused, "reason", ("none", 2), row_with, ELEVEN, table_of(((1, 1),))[0], 4)

    def test_constant(self):
        self.same(module.MAX_TERMS, 60)


class Rows(Case):
    def test_bound(self):
        for level in range(1, 101):
            self.same(form_bound(level), count_pairs(level) // 6)

    def test_against_all_places(self):
        """[14.1]"""
        for level in (1, 11, 12, 22, 23, 26, 30, 33, 34, 37, 39, 42, 46, 52, 57, 60, 68, 75):
            for size in (1, 2, 3, 7, 20) if level > 30 else (1, 4, 60):
                found = form_rows(Space(level), size)
                wanted = plain_rows(Space(level), size)
                self.assertEqual((type(found), found), (tuple, wanted))

    def test_rows(self):
        for level, space in SPACES.items():
            rows = ROWS[level]
            self.assertTrue(is_echelon(rows))
            self.same([len(rows), {len(row) for row in rows}], [genus(level), {60} if rows else set()])
            self.assertTrue(all(type(entry) is Ratio for row in rows for entry in row))
            bound = form_bound(level)
            for size in {1, 2, max(1, bound - 1), max(1, bound), 59}:
                cut = tuple(row[:size] for row in rows)
                found = form_rows(space, size)
                self.assertEqual(found, echelon(cut))
                # [14.2]
                self.assertTrue(size < bound or (len(found) == genus(level) and is_free(found, cut)))

    def test_traces(self):
        """The trace of T_n for n from 1 on is a row: the sum of those at the diagonal."""
        for level in (11, 23, 30, 37, 39, 46, 57, 60, 97):
            space = SPACES[level]
            size = form_bound(level)
            row = []
            for number in range(1, size + 1):
                table = doing_table(space, number, part="staying")
                total = ZERO
                for k, line in enumerate(table):
                    total = total.plus(line[k])
                row.append(total)
            self.assertIs(is_form_row(space, tuple(row)), True)
            whole = row_with(space, tuple(row), 60)
            for number in proper(level, range(1, 61)):
                self.assertEqual(whole[number - 1], Ratio(trace_of(level, number)))

    def test_led(self):
        """[14.3]"""
        chance = random.Random(171)
        for level in (11, 14, 22, 23, 26, 33, 37, 46, 49, 54):
            space = SPACES[level]
            row = mix(chance, ROWS[level])
            for prime in (2, 3, 5, 7, 11):
                made = led(level, row, prime)
                wanted = []
                for n in range(1, 60 // prime + 1):
                    more = level % prime and n % prime == 0
                    wanted.append(row[prime * n - 1].plus(row[n // prime - 1].times(prime) if more else 0))
                self.assertEqual(made, tuple(wanted))
                self.assertIs(is_form_row(space, made), True)
            for number in (4, 6, 9, 10, 12):
                made = led(level, row, number)
                self.assertIs(is_form_row(space, made), True)
                self.assertEqual(made[0], row[number - 1])

    def test_lines(self):
        """[14.4]"""
        for level in (11, 14, 22, 26, 33, 37, 38, 39, 46):
            rows = ROWS[level]
            leads = [[k for k, entry in enumerate(row) if entry.top][0] for row in rows]
            for kind in kinds(SPACES[level]):
                if kind.is_line:
                    # What T_p leads to a multiple, for some p, of the mixes of the rows that are left.
                    kept = rows
                    for prime in proper(level, (2, 3, 5)):
                        if 60 // prime >= form_bound(level):
                            value = kind.value_of(prime)
                            change = [[entry.minus(row[k].times(value)) for k, entry in enumerate(led(level, row, prime))]
                                      for row in kept]
                            kept = table_product(kernel_of(tuple(tuple(one[k] for k in leads) for one in change)), kept)
                    self.assertEqual(len(kept), kind.fold)
                    row = kept[0]
                    self.assertEqual(row[0], ONE)
                    for number in proper(level, range(1, 61)):
                        self.assertEqual(row[number - 1], Ratio(kind.value_of(number)))
                        made = led(level, row, number)
                        self.assertEqual(made, tuple(entry.times(row[number - 1]) for entry in row[:len(made)]))


class Judged(Case):
    def test_is_form_row(self):
        chance = random.Random(172)
        for level, space in SPACES.items():
            rows = ROWS[level]
            self.assertIs(is_form_row(space, (ZERO,) * 60), True)
            if not rows:
                self.assertIs(is_form_row(space, (ONE,)), False)
                self.assertIs(is_form_row(space, (ZERO,) * 5 + (ONE,)), False)
                continue
            row = mix(chance, rows)
            for told in (rows[0], rows[-1], row, tuple(entry.times(SIXTY) for entry in row)):
                for size in (1, form_bound(level), 60):
                    self.assertIs(is_form_row(space, told[:size]), True)
            for _ in range(3):
                k = chance.randrange(60)
                near = row[:k] + (row[k].plus(Ratio(1, 3)),) + row[k + 1:]
                self.assertIs(is_form_row(space, near), False)
                size = max(form_bound(level), 1)
                is_row = rank_of(tuple(one[:size] for one in rows) + (near[:size],)) == len(rows)
                self.assertIs(is_form_row(space, near[:size]), is_row)

    def test_eta_products(self):
        """[0.20], [13.5]"""
        for level, table in EIGHT.items():
            row = eta_product(table, 61).entries[1:]
            self.assertEqual(form_rows(SPACES[level], 60), (row,))
            self.assertIs(is_form_row(SPACES[level], row), True)
            self.assertEqual(row_with(SPACES[level], row[:form_bound(level)], 60), row)

    def test_rows_of_unlike_levels(self):
        for level in (22, 33):
            for row in ROWS[11]:
                self.assertIs(is_form_row(SPACES[level], row), True)
        self.assertIs(is_form_row(TWENTY_THREE, ROWS[11][0]), False)
        self.assertIs(is_form_row(ELEVEN, ROWS[22][1]), False)

    def test_values(self):
        for space in (ELEVEN, TWELVE, TWENTY_THREE):
            for value in NO_ROWS + ((),):
                self.assertIs(is_form_row(space, value), False)
        for value in NO_SPACES:
            self.refused(InvalidOperation, is_form_row, value, (ONE,))
            self.refused(InvalidOperation, is_form_row, value, None)


class Begun(Case):
    def test_row_with(self):
        chance = random.Random(173)
        for level, space in SPACES.items():
            bound = form_bound(level)
            row = mix(chance, ROWS[level]) if ROWS[level] else (ZERO,) * 60
            for size in (1, 2, bound, bound + 1, 60):
                if 1 <= size <= 60:
                    found = row_with(space, row[:bound], size)
                    self.assertEqual((type(found), found), (tuple, row[:size]))
        self.assertEqual(row_with(SPACES[1], (), 3), (ZERO,) * 3)

    def test_none(self):
        """The least number of entries with which no row begins."""
        chance = random.Random(174)
        for level in LEVELS[:30:2] + [37, 46, 54, 60, 97]:
            space, bound = SPACES[level], form_bound(level)
            for _ in range(3 if bound else 0):
                row = mix(chance, ROWS[level]) if ROWS[level] else (ZERO,) * 60
                begun = list(row[:bound])
                for _ in range(chance.randint(1, 2)):
                    begun[chance.randrange(bound)] = random_ratio(chance)
                least = [n for n in range(1, bound + 1) if not is_form_row(space, tuple(begun[:n]))]
                for size in (1, 60):
                    if least:
                        self.refused_with(Refused, "reason", ("none", least[0]), row_with, space, tuple(begun), size)
                    else:
                        self.assertEqual(row_with(space, tuple(begun), size)[:bound], tuple(begun)[:size])

    def test_refused(self):
        for value in NO_SPACES:
            self.refused(InvalidOperation, row_with, value, (ONE, TWO), 5)
            self.refused(InvalidOperation, row_with, value, None, 0)
            self.refused(InvalidOperation, form_rows, value, 5)
            self.refused(InvalidOperation, form_rows, value, 0)
        for value in NO_ROWS + ((), (ONE,), (ONE, TWO, ZERO), (ONE, 2)):
            self.refused(InvalidRow, row_with, ELEVEN, value, 5)
            self.refused(InvalidRow, row_with, ELEVEN, value, 0)
        self.refused(InvalidRow, row_with, SPACES[1], (ZERO,), 5)
        for value in NO_SIZES:
            self.refused_with(InvalidCount, "value", value, form_rows, ELEVEN, value)
            self.refused_with(InvalidCount, "value", value, form_rows, TWELVE, value)
            self.refused_with(InvalidCount, "value", value, row_with, ELEVEN, (ONE, Ratio(-2)), value)
            # Ahead of the error that no row begins so.
            self.refused_with(InvalidCount, "value", value, row_with, ELEVEN, (ONE, ONE), value)
        for level in NO_LEVELS:
            self.refused(InvalidLevel, form_bound, level)

    def test_first_difference(self):
        row = (ONE, TWO, Ratio(1, 3), ZERO)
        self.same([first_difference(row, row), first_difference(row, (TWO,) + row[1:]),
                   first_difference(row, row[:3] + (ONE,)), first_difference((ONE,) * 60, (ONE,) * 59 + (TWO,)),
                   first_difference((ONE,), (Ratio(3, 3),)), first_difference((ONE, TWO, TWO), (ONE, ONE, ONE))],
                  [None, 1, 4, 60, None, 2])
        for value in NO_ROWS + ((),):
            self.refused(InvalidRow, first_difference, value, row)
            self.refused(InvalidRow, first_difference, row, value)
        for one, other in ((row, row[:3]), ((ONE,), (ONE, ONE)), ((TWO,) * 60, (ONE,))):
            self.refused(InvalidOperation, first_difference, one, other)

    def test_told_apart(self):
        """[14.2], [0.20]: rows that differ do so up to the bound."""
        chance = random.Random(175)
        for level, rows in ROWS.items():
            for _ in range(5 if rows else 0):
                one, other = mix(chance, rows), mix(chance, rows)
                least = first_difference(one, other)
                self.assertTrue(one == other or least <= form_bound(level))


class Statements(Case):
    def test_what_is_not_true(self):
        """[14.7], [0.22]"""
        self.assertEqual(ROWS[22][1][0], ZERO)
        # At the proper n all entries of the second row of the level 22 are 0, as in the row of zeros.
        self.assertTrue(all(ROWS[22][1][n - 1] == ZERO for n in proper(22, range(1, 61))))
        self.assertTrue(any(entry.bottom > 1 for rows in ROWS.values() for row in rows for entry in row))
        self.assertIn(ZERO, [ROWS[level][0][p - 1] for level in (11, 17, 32) for p in (2, 3, 5, 7, 19)])


if __name__ == "__main__":
    unittest.main()
