"""[11.1] to [11.8]: lots."""

import random
import unittest
from fractions import Fraction
from math import gcd, isqrt

from levelroads.base.numbers import divisors
from levelroads.base.ratios import Ratio
from levelroads.errors import InvalidCount, InvalidElement, InvalidLot, InvalidOperation, InvalidPrime, TooMany
from levelroads.quat import lots as module
from levelroads.quat.lots import (
    Lot, are_alike_lots, are_lots, class_of, count_between, is_lot_paper, least_rows, lot_of, lot_paper, lots,
    lots_of_norm, neighbours, rows_between, whole_lot)
from levelroads.quat.quaternions import Order
from levelroads.rim.groups import genus
from support import NO_INTEGERS, SIXTY, SIXTY_ONE, Case
from test_quaternions import NO_ELEMENTS, NO_PRIMES, PRIMES

ORDERS = {prime: Order(prime) for prime in PRIMES}
FULL = {prime: lots(prime) for prime in PRIMES}
WHOLE = {prime: whole_lot(prime) for prime in PRIMES}
ELEVEN = WHOLE[11]
NEAR = neighbours(ELEVEN, 2)
SIDES = (2, 3, 5, 7, 11, 13)
UNIT_ROWS = ((1, 0, 0, 0), (0, 1, 0, 0), (0, 0, 1, 0), (0, 0, 0, 1))
NO_LOTS = NO_INTEGERS + (0, 11, "1 0 0 1/0 1 1 0/0 0 2 0/0 0 0 2 over 11", UNIT_ROWS, [ELEVEN], (ELEVEN,), ORDERS[11])
NO_FULL = NO_LOTS[:-2] + (
    ELEVEN, [ELEVEN, NEAR[0]], (ELEVEN,), (ELEVEN, NEAR[2]), (NEAR[0], NEAR[1]), (ELEVEN, NEAR[0], NEAR[0]),
    (ELEVEN, ELEVEN, NEAR[0]), (ELEVEN, NEAR[0].rows), (ELEVEN, WHOLE[2]), (NEAR[0], WHOLE[2]), ((ELEVEN, NEAR[0]),),
    (ELEVEN, None), FULL[23][:2], FULL[23] + FULL[11], {0: ELEVEN, 1: NEAR[0]},
)


def put_in(rows, told):
    """Rows of a triangle with one more row, by common divisors."""
    row = list(told)
    for k, lead in enumerate(rows):
        while row[k]:
            if lead is None or lead[k] == 0:
                rows[k] = lead = row
                row = [0] * len(row)
            else:
                many = lead[k] // row[k]
                lead, row = row, [x - many * y for x, y in zip(lead, row)]
                rows[k] = lead


def plain_rows(told, width=4):
    """The least rows of what some rows tell, one row after the other put in; None if there are none."""
    rows = [None] * width
    for row in told:
        put_in(rows, row)
    if None in rows:
        return None
    rows = [row if row[k] > 0 else [-x for x in row] for k, row in enumerate(rows)]
    for k in range(width):
        for above in range(k):
            many = rows[above][k] // rows[k][k]
            rows[above] = [x - many * y for x, y in zip(rows[above], rows[k])]
    # Those to the right may be changed by what comes later: until all are least.
    for above in range(width - 1, -1, -1):
        for k in range(above + 1, width):
            many = rows[above][k] // rows[k][k]
            rows[above] = [x - many * y for x, y in zip(rows[above], rows[k])]
    return tuple(tuple(row) for row in rows)


def is_told_by(rows, x):
    """Whether an element is a sum of multiples of free rows, by fractions."""
    rest = [Fraction(part) for part in x]
    for k, row in enumerate(rows):
        many = rest[k] / row[k]
        if many.denominator != 1:
            return False
        rest = [part - many * y for part, y in zip(rest, row)]
    return True


def random_element(chance, size):
    return tuple(chance.randint(-size, size) for _ in range(4))


def random_member(chance, lot, size=4):
    many = random_element(chance, size)
    return tuple(sum(m * row[k] for m, row in zip(many, lot.rows)) for k in range(4))


def random_lot(chance, prime, steps=3):
    """A lot, from neighbour to neighbour, and some times behind an element."""
    lot = WHOLE[prime]
    for _ in range(steps):
        side = chance.choice([q for q in (2, 3, 5) if q != prime])
        if side * lot.size < 400:
            lot = chance.choice(neighbours(lot, side))
    return lot


def plain_between(one, other):
    order = ORDERS[one.prime]
    return plain_rows([order.multiplied(order.conjugated(x), y) for x in one.rows for y in other.rows])


def sum_without(number, prime):
    return sum(d for d in divisors(number) if d % prime)


class Examples(Case):
    def test_examples(self):
        whole = whole_lot(11)
        near = neighbours(whole, 2)
        self.same([len(near), str(near[0]), near[1].rows, near[2].size, len(whole), len(near[0]), len(near[2])],
                  [3, '1 0 0 1/0 1 1 0/0 0 2 0/0 0 0 2 over 11', ((1, 0, 1, 1), (0, 1, 1, 1), (0, 0, 2, 0),
                   (0, 0, 0, 2)), 2, 4, 6, 4])
        self.same([are_alike_lots(near[0], near[1]), are_alike_lots(whole, near[0]), lot_paper(whole, near[0]),
                   are_alike_lots(whole, near[2])], [True, False, None, True])
        self.same([is_lot_paper(whole, near[2], (2, 2, -1, -1)), is_lot_paper(whole, near[2], (2, -2, -1, 1)),
                   is_lot_paper(whole, near[2], (2, 2, -1, 1)), whole.behind((2, 2, -1, -1)) == near[2]],
                  [True, True, False, True])
        self.same([is_lot_paper(near[0], near[1], (0, 4, 0, -2)), len(lots(11)), len(lots(23)),
                   len(lots_of_norm(11, 4)), lots_of_norm(11, 11)[0].rows],
                  [True, 2, 3, 7, ((11, 0, 0, 0), (0, 11, 0, 0), (0, 0, 1, 0), (0, 0, 0, 1))])
        self.same([count_between(whole, whole, 1), count_between(whole, whole, 3), count_between(whole, near[0], 1),
                   count_between(near[0], near[1], 1), are_lots(11, (whole, near[0])), are_lots(11, (whole, near[2]))],
                  [4, 8, 0, 6, True, False])
        self.same([near[0].joined(near[1]) == whole, near[0].shared(near[1]) == whole.multiplied(2)], [True, True])
        self.refused_with(InvalidCount, "value", 11, neighbours, whole, 11)
        self.same([ORDERS[11].one, ORDERS[11].norm_of((2, 2, -1, -1)), rows_between(whole, near[1]) == near[1].rows],
                  [(2, 0, -1, 0), 2, True])

    def test_constants(self):
        self.same([module.MAX_NORM, module.MAX_SIDES, module.MAX_LISTED], [10000, 13, 60])


class LeastRows(Case):
    def test_drawn(self):
        chance = random.Random(131)
        for size in (1, 3, 9, 1000, SIXTY):
            for many in (4, 4, 5, 6, 12, 64):
                told = tuple(random_element(chance, size) for _ in range(many))
                wanted = plain_rows(told)
                if wanted is None:
                    self.refused(InvalidOperation, least_rows, 11, told)
                    continue
                found = least_rows(chance.choice(PRIMES), told)
                self.same(found, wanted)
                self.check_least(found, told)
        self.same(least_rows(2, ((0, 0, 0, -3), (0, 2, 1, 1), (5, 0, 0, 0), (0, 0, 1, 0), (0, 0, 0, 0), (0, 0, 0, 6))),
                  ((5, 0, 0, 0), (0, 2, 0, 1), (0, 0, 1, 0), (0, 0, 0, 3)))

    def check_least(self, rows, told):
        for k, row in enumerate(rows):
            self.assertEqual([type(part) for part in row], [int] * 4)
            self.assertTrue(not any(row[:k]) and row[k] > 0)
            self.assertTrue(all(0 <= above[k] < row[k] for above in rows[:k]))
        self.assertTrue(all(is_told_by(rows, x) for x in told))

    def test_one_tuple_alone(self):
        """Other rows with the same sums of multiples have the same least rows."""
        chance = random.Random(132)
        for _ in range(40):
            rows = [random_element(chance, 20) for _ in range(4)]
            wanted = plain_rows(rows)
            if wanted is not None:
                for _ in range(12):
                    a, b = chance.sample(range(4), 2)
                    many = chance.randint(-5, 5)
                    rows[a] = tuple(x + many * y for x, y in zip(rows[a], rows[b]))
                chance.shuffle(rows)
                self.same(least_rows(7, tuple(rows)), wanted)

    def test_none(self):
        for told in (((0, 0, 0, 0),), ((1, 2, 3, 4),), UNIT_ROWS[:3], UNIT_ROWS[:3] + ((1, 1, 1, 0), (5, 2, -7, 0)),
                     ((1, 1, 0, 0), (0, 1, 1, 0), (0, 0, 1, 1), (1, 0, 0, 1), (2, 1, 0, 1)), ((0, 0, 0, 0),) * 64):
            self.refused(InvalidOperation, least_rows, 11, told)

    def test_refused(self):
        for prime in NO_PRIMES:
            self.refused(InvalidPrime, least_rows, prime, UNIT_ROWS)
            self.refused(InvalidPrime, least_rows, prime, None)
        for value in NO_ELEMENTS:
            self.refused(InvalidElement, least_rows, 11, (value,))
            self.refused(InvalidElement, least_rows, 11, UNIT_ROWS + (value,))
        for value in NO_INTEGERS + (0, [UNIT_ROWS[0]], list(UNIT_ROWS), UNIT_ROWS * 17, UNIT_ROWS * 16 + UNIT_ROWS[:1],
                                    {UNIT_ROWS[0]: 1}, ELEVEN, (1, 2, 3, 4)):
            self.refused(InvalidElement, least_rows, 11, value)
        self.same(least_rows(11, UNIT_ROWS * 16), UNIT_ROWS)


class Lots(Case):
    def test_whole(self):
        for prime in PRIMES:
            whole = WHOLE[prime]
            self.assertIs(type(whole), Lot)
            self.same([whole.prime, whole.rows, whole.size, len(whole)],
                      [prime, UNIT_ROWS, 1, len(ORDERS[prime].elements_of(1))])
            self.assertEqual(whole, Lot(prime, UNIT_ROWS))

    def test_made(self):
        chance = random.Random(133)
        for prime in PRIMES:
            order = ORDERS[prime]
            for lot in [random_lot(chance, prime) for _ in range(4)] + list(FULL[prime]):
                again = Lot(prime, lot.rows)
                self.same([again.prime, again.rows, again.size], [prime, lot.rows, lot.size])
                self.assertEqual(again, lot)
                a, b, c, d = (lot.rows[k][k] for k in range(4))
                self.assertEqual(lot.size ** 2, a * b * c * d)
                # The norm is the greatest integer that divides the norms of all elements.
                shared = 0
                for x in lot.rows:
                    for y in lot.rows:
                        shared = gcd(shared, order.norm_of(tuple(s + t for s, t in zip(x, y))))
                    shared = gcd(shared, order.norm_of(x))
                self.assertEqual(shared, lot.size)
                for row in lot.rows:
                    self.assertTrue(all(order.multiplied(unit, row) in lot for unit in UNIT_ROWS))

    def test_rows_near(self):
        """Of all least rows of the index 4 or 9 or 16 only those are lots that are told by neighbours."""
        for prime, side in ((11, 2), (2, 3), (11, 3), (5, 2), (3, 2)):
            known = {lot.rows for lot in neighbours(WHOLE[prime], side)}
            found = set()
            for rows in self.all_least(side * side):
                try:
                    found.add(Lot(prime, rows).rows)
                except InvalidLot:
                    pass
            self.assertEqual(found, known)

    def all_least(self, index):
        for a in divisors(index):
            for b in divisors(index // a):
                for c in divisors(index // (a * b)):
                    d = index // (a * b * c)
                    for x in range(b):
                        for y in range(c):
                            for z in range(c):
                                for u in range(d):
                                    for v in range(d):
                                        for w in range(d):
                                            yield (a, x, y, u), (0, b, z, v), (0, 0, c, w), (0, 0, 0, d)

    def test_refused(self):
        rows = NEAR[0].rows
        for prime in NO_PRIMES:
            for value in (rows, None):
                self.refused(InvalidPrime, Lot, prime, value)
            self.refused(InvalidPrime, whole_lot, prime)
        great = tuple(tuple(SIXTY * part for part in row) for row in UNIT_ROWS)
        longer = tuple(tuple(SIXTY_ONE * part for part in row) for row in UNIT_ROWS)
        for value in tuple(value for value in NO_LOTS if value is not UNIT_ROWS) + (
                ELEVEN, list(rows), tuple(list(row) for row in rows), rows[:3], rows + rows[:1], rows[::-1],
                ((1, 0, 0, 3),) + rows[1:], ((1, 0, 0, -1),) + rows[1:], ((1, 0, 0, True),) + rows[1:],
                ((True, 0, 0, 1),) + rows[1:], ((-1, 0, 0, 1),) + rows[1:], rows[:3] + ((0, 0, 0, -2),),
                rows[:3] + ((0, 0, 0, 0),), rows[:3] + ((0, 0, 0, 4),), rows[:3] + ((0, 0, 1, 2),), (1, 2, 3, 4),
                ((1, 0, 0, 0), (0, 1, 0, 0), (0, 0, 1, 0), (0, 0, 0, 2)), longer, (UNIT_ROWS,), ((),) * 4,
                ((1, 0, 0, "1"),) + rows[1:], ((1, 0, None, 1),) + rows[1:], ((1, 0, 0, 1, 0),) + rows[1:]):
            self.refused(InvalidLot, Lot, 11, value)
        self.refused_with(TooMany, "limit", 10000, Lot, 11, great)
        self.refused(InvalidLot, Lot, 11, great[:3] + ((0, 0, 0, SIXTY - 1),))
        # The rows of a lot of another prime.
        self.refused(InvalidLot, Lot, 13, NEAR[1].rows)

    def test_bounds(self):
        hundred = tuple(tuple(100 * part for part in row) for row in UNIT_ROWS)
        more = tuple(tuple(101 * part for part in row) for row in UNIT_ROWS)
        for prime in (2, 11, 97):
            self.same(Lot(prime, hundred).size, 10000)
            self.assertEqual(len(Lot(prime, hundred)), len(WHOLE[prime]))
            self.refused_with(TooMany, "limit", 10000, Lot, prime, more)

    def test_equal_and_text(self):
        for one in FULL[11] + NEAR + FULL[2] + FULL[13]:
            for other in FULL[11] + NEAR + FULL[2] + FULL[13]:
                is_same = (one.prime, one.rows) == (other.prime, other.rows)
                self.assertEqual((one == other, one != other), (is_same, not is_same))
            rows = "/".join(" ".join(str(part) for part in row) for row in one.rows)
            self.same(str(one), f"{rows} over {one.prime}")
        self.assertTrue(WHOLE[2] != WHOLE[13])
        for value in NO_LOTS:
            self.assertEqual((ELEVEN == value, ELEVEN != value), (False, True))

    def test_never_changed(self):
        for name in ("prime", "rows", "size"):
            self.assertRaises(AttributeError, setattr, ELEVEN, name, 5)
        for name in ("prime", "rows", "size", "behind", "multiplied", "joined", "shared", "__contains__", "__eq__",
                     "__len__", "__str__"):
            self.assertIn(name, vars(Lot))
        self.assertRaises(TypeError, iter, ELEVEN)
        self.assertRaises(TypeError, list, NEAR[0])

    def test_members(self):
        chance = random.Random(134)
        for prime in PRIMES:
            for lot in [random_lot(chance, prime), FULL[prime][-1]]:
                for size in (3, 1000, SIXTY, 10 ** 99):
                    x = random_member(chance, lot, size)
                    self.assertIs(x in lot, True)
                    for _ in range(6):
                        near = list(x)
                        near[chance.randrange(4)] += chance.choice((-1, 1, 2))
                        self.assertIs(tuple(near) in lot, is_told_by(lot.rows, near))
                self.assertTrue((0, 0, 0, 0) in lot and all(row in lot for row in lot.rows))
        for value in NO_INTEGERS + (0, 5, (0, 0, 0), (0, 0, 0, 0, 0), [0, 0, 0, 0], (0, 0, 0, False), (True, 0, 0, 0),
                                    (2, 0, None, 0), ("0", 0, 0, 0), ELEVEN, UNIT_ROWS, (Ratio(1), 0, 0, 0)):
            self.assertIs(value in ELEVEN, False)
            self.assertIs(value not in ELEVEN, True)


class Made(Case):
    def test_behind(self):
        """[11.3]"""
        chance = random.Random(135)
        for prime in PRIMES:
            order = ORDERS[prime]
            for _ in range(4):
                lot, y = random_lot(chance, prime, 2), random_element(chance, 1)
                if not any(y):
                    continue
                size = lot.size * order.norm_of(y)
                if size > 10000:
                    self.refused_with(TooMany, "limit", 10000, lot.behind, y)
                    continue
                found = lot.behind(y)
                self.same([found.rows, found.size],
                          [plain_rows([order.multiplied(x, y) for x in lot.rows]), size])
                self.assertIs(are_alike_lots(lot, found), True)
                paper = tuple(lot.size * part for part in y)
                self.assertIs(is_lot_paper(lot, found, paper), True)
                self.assertEqual(len(found), len(lot))
            self.assertEqual(lot.behind(order.one), lot)

    def test_behind_refused(self):
        for value in NO_ELEMENTS:
            self.refused(InvalidElement, ELEVEN.behind, value)
        self.refused(InvalidOperation, ELEVEN.behind, (0, 0, 0, 0))
        self.refused_with(TooMany, "limit", 10000, ELEVEN.behind, (SIXTY, -SIXTY, 3, SIXTY))
        hundred, more = (200, 0, -100, 0), (202, 0, -101, 0)
        self.same(ELEVEN.behind(hundred).rows, tuple(tuple(100 * part for part in row) for row in UNIT_ROWS))
        self.refused_with(TooMany, "limit", 10000, ELEVEN.behind, more)
        self.refused_with(TooMany, "limit", 10000, NEAR[0].behind, hundred)

    def test_multiplied(self):
        for lot in NEAR + FULL[23] + FULL[2]:
            for many in (1, 2, 3, 7, 30):
                found = lot.multiplied(many)
                self.same([found.rows, found.size], [tuple(tuple(many * part for part in row) for row in lot.rows),
                                                     many * many * lot.size])
                self.assertIs(are_alike_lots(lot, found), True)
        self.same([ELEVEN.multiplied(100).size, NEAR[0].multiplied(70).size], [10000, 9800])
        for value in NO_INTEGERS + (0, -1, 101, SIXTY):
            self.refused_with(InvalidCount, "value", value, ELEVEN.multiplied, value)
            self.refused_with(InvalidCount, "value", value, NEAR[0].multiplied, value)
        self.refused_with(TooMany, "limit", 10000, NEAR[0].multiplied, 71)

    def test_joined_and_shared(self):
        chance = random.Random(136)
        for prime in PRIMES:
            for _ in range(3):
                one, other = random_lot(chance, prime, 2), random_lot(chance, prime, 2)
                joined, shared = one.joined(other), one.shared(other)
                self.same(joined.rows, plain_rows(one.rows + other.rows))
                # Index laws, and that the shared one is within both: so it is all that is in both.
                self.assertEqual(joined.size * shared.size, one.size * other.size)
                self.assertTrue(all(row in one and row in other for row in shared.rows))
                self.assertEqual((one.joined(one), one.shared(one)), (one, one))
                self.assertEqual((other.joined(one), other.shared(one)), (joined, shared))
                for _ in range(10):
                    x = random_member(chance, one, 3)
                    self.assertIs(x in shared, x in other)
        for value in NO_LOTS:
            self.refused(InvalidLot, ELEVEN.joined, value)
            self.refused(InvalidLot, ELEVEN.shared, value)
        for other in (WHOLE[2], WHOLE[13], FULL[23][1]):
            self.refused(InvalidOperation, ELEVEN.joined, other)
            self.refused(InvalidOperation, ELEVEN.shared, other)
        great, prime = ELEVEN.multiplied(97), lots_of_norm(11, 2)[0]
        self.refused_with(TooMany, "limit", 10000, great.shared, prime)
        self.same([great.joined(prime).size, ELEVEN.multiplied(50).shared(ELEVEN.multiplied(4)).size], [1, 10000])
        self.refused_with(TooMany, "limit", 10000, ELEVEN.multiplied(50).shared, ELEVEN.multiplied(3))

    def test_lot_of(self):
        chance = random.Random(137)
        for prime in PRIMES:
            order = ORDERS[prime]
            for size, many in ((1, 1), (1, 2), (4, 2), (30, 3), (10 ** 20, 8), (SIXTY, 8)):
                told = tuple(random_element(chance, size) for _ in range(many))
                if any(any(x) for x in told):
                    wanted = plain_rows([order.multiplied(unit, x) for unit in UNIT_ROWS for x in told])
                    norm = isqrt(wanted[0][0] * wanted[1][1] * wanted[2][2] * wanted[3][3])
                    if norm > 10000:
                        self.refused_with(TooMany, "limit", 10000, lot_of, prime, told)
                    else:
                        self.same([lot_of(prime, told).rows, lot_of(prime, told).size], [wanted, norm])
            for lot in FULL[prime]:
                self.assertEqual(lot_of(prime, lot.rows), lot)
                self.assertEqual(lot_of(prime, lot.rows + ((0, 0, 0, 0),) * 4), lot)

    def test_lot_of_refused(self):
        for prime in NO_PRIMES:
            self.refused(InvalidPrime, lot_of, prime, UNIT_ROWS)
            self.refused(InvalidPrime, lot_of, prime, None)
        for value in NO_ELEMENTS:
            self.refused(InvalidElement, lot_of, 11, (value,))
            self.refused(InvalidElement, lot_of, 11, ((0, 0, 0, 0), value))
        for value in NO_INTEGERS + (0, list(UNIT_ROWS), UNIT_ROWS * 3, UNIT_ROWS * 2 + UNIT_ROWS[:1], ELEVEN):
            self.refused(InvalidElement, lot_of, 11, value)
        for many in range(1, 9):
            self.refused(InvalidOperation, lot_of, 11, ((0, 0, 0, 0),) * many)
        self.refused_with(TooMany, "limit", 10000, lot_of, 11, ((SIXTY, 0, 0, 0),))


class Between(Case):
    def test_rows(self):
        """[11.4]"""
        chance = random.Random(138)
        for prime in PRIMES:
            for _ in range(3):
                one, other = random_lot(chance, prime), random_lot(chance, prime)
                self.same(rows_between(one, other), plain_between(one, other))
            self.same(rows_between(WHOLE[prime], other), other.rows)

    def test_counts(self):
        """Against all elements that small multiples of the rows of some lattices make."""
        for prime in (2, 3, 11, 23):
            order = ORDERS[prime]
            for lot in FULL[prime]:
                for number in (1, 2, 3, 4, 6, 10):
                    # The lattice between the whole lot and a lot is this lot: so it has the elements of the order.
                    wanted = [x for x in order.elements_of(number * lot.size) if x in lot]
                    self.same(count_between(WHOLE[prime], lot, number), len(wanted))

    def test_counts_of_both(self):
        """For both sequences of two lots, and by the lots within one of them that are alike with the other one."""
        chance = random.Random(139)
        for prime in (2, 3, 5, 11, 23, 37, 53):
            for _ in range(3):
                one, other = random_lot(chance, prime), random_lot(chance, prime, 2)
                for number in (1, 2, 3, 5, 8, 60):
                    found = count_between(one, other, number)
                    self.same(found, count_between(other, one, number))
                for number in (2, 3, 5):
                    if number != prime:
                        alike = [lot for lot in neighbours(one, number) if are_alike_lots(lot, other)]
                        self.same(count_between(one, other, number), len(alike) * len(other))

    def test_papers(self):
        chance = random.Random(140)
        for prime in PRIMES:
            order = ORDERS[prime]
            for _ in range(4):
                one, other = random_lot(chance, prime), random_lot(chance, prime)
                paper = lot_paper(one, other)
                self.assertIs(are_alike_lots(one, other), paper is not None)
                self.assertEqual(count_between(one, other, 1), len(one) if paper else 0)
                if paper is None:
                    continue
                self.assertEqual([type(paper), [type(part) for part in paper]], [tuple, [int] * 4])
                self.assertIs(is_lot_paper(one, other, paper), True)
                self.assertEqual(order.norm_of(paper), one.size * other.size)
                behind = plain_rows([order.multiplied(x, paper) for x in one.rows])
                self.same(behind, tuple(tuple(one.size * part for part in row) for row in other.rows))
                self.assertIs(is_lot_paper(one, other, tuple(-part for part in paper)), True)
                for k in range(4):
                    near = paper[:k] + (paper[k] + 1,) + paper[k + 1:]
                    is_paper = order.norm_of(near) == one.size * other.size and is_told_by(
                        rows_between(one, other), near)
                    self.assertIs(is_lot_paper(one, other, near), is_paper)
                self.assertIs(is_lot_paper(one, other, tuple(2 * part for part in paper)), False)
                if one.size > 1:
                    self.assertIs(is_lot_paper(one, other, order.one), False)

    def test_all_papers(self):
        """Each unit, and each element of the right norm in the lattice, is a paper, and no other element is."""
        for prime in (2, 3, 11, 23):
            order, whole = ORDERS[prime], WHOLE[prime]
            for lot in FULL[prime] + neighbours(whole, 5 if prime == 3 else 3):
                papers = [x for x in order.elements_of(lot.size) if is_lot_paper(whole, lot, x)]
                self.assertEqual(papers, [x for x in order.elements_of(lot.size) if x in lot])
                self.assertIs(bool(papers), are_alike_lots(whole, lot))
                self.assertEqual(all(whole.behind(x) == lot for x in papers), True)

    def test_values_near_papers(self):
        for value in NO_ELEMENTS + ((2 * SIXTY, SIXTY, -1, 10 ** 100), (10 ** 99, 0, 0, 0), (2, 0, -1, False)):
            self.assertIs(is_lot_paper(ELEVEN, ELEVEN, value), False)
        self.assertIs(is_lot_paper(ELEVEN, ELEVEN, (2, 0, -1, 0)), True)
        self.assertIs(is_lot_paper(ELEVEN, NEAR[0], (2, 0, -1, 0)), False)

    def test_units(self):
        """[11.5]"""
        chance = random.Random(141)
        for prime in PRIMES:
            for lot in [random_lot(chance, prime) for _ in range(3)] + list(FULL[prime]):
                many = len(lot)
                self.assertIn(many, (2, 4, 6, 12, 24))
                self.same(many, count_between(lot, lot, 1))
                self.assertIs(is_lot_paper(lot, lot, tuple(lot.size * part for part in ORDERS[prime].one)), True)
                for other in FULL[prime]:
                    if are_alike_lots(lot, other):
                        self.same(len(other), many)

    def test_greatest_lots(self):
        chance = random.Random(142)
        for prime in (2, 3, 11, 23, 89):
            one, other = FULL[prime][0], FULL[prime][-1]
            most = isqrt(10000 // other.size)
            other = other.multiplied(min(100, most))
            y = random_element(chance, 2)
            if any(y) and ORDERS[prime].norm_of(y) <= 10000:
                one = one.behind(y)
            self.assertIs(are_alike_lots(one, other), prime in (2, 3))
            self.same(count_between(one, other, 7), count_between(FULL[prime][0], FULL[prime][-1], 7))

    def test_refused(self):
        calls = (rows_between, are_alike_lots, lot_paper)
        for value in NO_LOTS:
            for call in calls:
                self.refused(InvalidLot, call, value, ELEVEN)
                self.refused(InvalidLot, call, ELEVEN, value)
                self.refused(InvalidLot, call, value, WHOLE[2])
            for number in (1, 0):
                self.refused(InvalidLot, count_between, value, ELEVEN, number)
                self.refused(InvalidLot, count_between, ELEVEN, value, number)
                self.refused(InvalidLot, is_lot_paper, value, ELEVEN, number)
                self.refused(InvalidLot, is_lot_paper, ELEVEN, value, number)
        for call in calls:
            self.refused(InvalidOperation, call, ELEVEN, WHOLE[2])
        self.refused(InvalidOperation, count_between, ELEVEN, WHOLE[2], 0)
        self.refused(InvalidOperation, is_lot_paper, ELEVEN, WHOLE[2], None)
        for value in NO_INTEGERS + (0, -1, 61, SIXTY):
            self.refused_with(InvalidCount, "value", value, count_between, ELEVEN, NEAR[0], value)
        self.same(count_between(WHOLE[2], WHOLE[2], 60), 24 * 24)


class Neighbours(Case):
    def test_neighbours(self):
        """[11.6]"""
        chance = random.Random(143)
        for prime in (2, 3, 5, 7, 11, 13, 17, 23, 67, 97):
            for lot in (WHOLE[prime], random_lot(chance, prime, 2)):
                for side in SIDES:
                    if side == prime:
                        continue
                    found = neighbours(lot, side)
                    self.assertEqual((type(found), len(found)), (tuple, side + 1))
                    rows = [one.rows for one in found]
                    self.assertTrue(rows == sorted(rows) and len(set(rows)) == side + 1)
                    for one in found:
                        self.same([type(one), one.prime, one.size], [Lot, prime, side * lot.size])
                        self.assertTrue(all(row in lot for row in one.rows))
                        self.assertTrue(all(tuple(side * part for part in row) in one for row in lot.rows))

    def test_refused(self):
        for value in NO_LOTS:
            self.refused(InvalidLot, neighbours, value, 2)
            self.refused(InvalidLot, neighbours, value, None)
        for value in NO_INTEGERS + (0, 1, 4, 6, 9, 12, 14, 15, 17, -2, 97, SIXTY, 11):
            self.refused_with(InvalidCount, "value", value, neighbours, ELEVEN, value)
        for prime in SIDES:
            self.refused_with(InvalidCount, "value", prime, neighbours, WHOLE[prime].multiplied(100), prime)
        great = ELEVEN.multiplied(70)
        self.refused_with(TooMany, "limit", 10000, neighbours, great, 3)
        self.same([one.size for one in neighbours(great, 2)], [9800] * 3)
        self.refused_with(TooMany, "limit", 10000, neighbours, ELEVEN.multiplied(100), 2)


    def test_reached(self):
        """[11.6]: each class is reached from the whole lot, by whatever prime."""
        for prime, side in ((11, 3), (11, 13), (23, 5), (37, 3), (53, 2), (67, 7), (89, 3), (97, 5)):
            full = FULL[prime]
            met = {class_of(full, WHOLE[prime])}
            layer = [WHOLE[prime]]
            while layer:
                reached = []
                for near in [near for lot in layer for near in neighbours(lot, side)]:
                    if class_of(full, near) not in met:
                        met.add(class_of(full, near))
                        reached.append(near)
                layer = reached
            self.assertEqual(met, set(range(len(full))))


class Classes(Case):
    def test_lots(self):
        """[11.7]"""
        for prime in PRIMES:
            found = FULL[prime]
            self.same([type(found), len(found), {type(lot) for lot in found}, {lot.prime for lot in found}],
                      [tuple, genus(prime) + 1, {Lot}, {prime}])
            for k, one in enumerate(found):
                for other in found[:k]:
                    self.assertIs(are_alike_lots(one, other), False)
            self.assertEqual(sum(Fraction(1, len(lot)) for lot in found), Fraction(prime - 1, 24))

    def test_are_lots(self):
        chance = random.Random(144)
        for prime in PRIMES:
            found = list(FULL[prime])
            self.assertIs(are_lots(prime, tuple(found)), True)
            chance.shuffle(found)
            self.assertIs(are_lots(prime, tuple(found)), True)
            exchanged = [self.one_alike(chance, lot) for lot in found]
            self.assertIs(are_lots(prime, tuple(exchanged)), True)
            for value in (found, tuple(found[1:]), tuple(found + found[:1]), tuple(found + [WHOLE[prime]]),
                          tuple(found[:-1] + [found[-1].rows]), tuple(found[:-1] + [None])):
                self.assertIs(are_lots(prime, value), False)
            if len(found) > 1:
                self.assertIs(are_lots(prime, tuple(found[:-1] + found[:1])), False)
                self.assertIs(are_lots(prime, tuple([exchanged[1]] + found[1:])), False)
            for other in (2, 11, 13, 97):
                self.assertIs(are_lots(other, tuple(found)), other == prime)
        for value in NO_FULL:
            self.assertIs(are_lots(11, value), False)
        for prime in NO_PRIMES:
            self.refused(InvalidPrime, are_lots, prime, FULL[11])
            self.refused(InvalidPrime, are_lots, prime, None)
            self.refused(InvalidPrime, lots, prime)

    def one_alike(self, chance, lot):
        y = (0, 0, 0, 0)
        while not any(y) or ORDERS[lot.prime].norm_of(y) * lot.size > 10000:
            y = random_element(chance, 2)
        return lot.behind(y)

    def test_lots_of_norm(self):
        for prime in PRIMES:
            order = ORDERS[prime]
            for number in (1, 2, 3, 4, 6, 8, 9, 12, 13, 30, 49, 60) if prime < 20 else (1, 2, 4, 6, 25, 29, 58, 59):
                found = lots_of_norm(prime, number)
                self.same([type(found), len(found)], [tuple, sum_without(number, prime)])
                rows = [lot.rows for lot in found]
                self.assertTrue(rows == sorted(rows) and len(set(rows)) == len(rows))
                for lot in found[:5]:
                    self.same([type(lot), lot.prime, lot.size], [Lot, prime, number])
                if number < 10:
                    # The lots behind elements of the norm are some of them.
                    behind = {WHOLE[prime].behind(x).rows for x in order.elements_of(number)}
                    self.assertLessEqual(behind, set(rows))
            if prime < 60:
                self.same(len(lots_of_norm(prime, prime)), 1)

    def test_lots_of_norm_refused(self):
        for prime in NO_PRIMES:
            self.refused(InvalidPrime, lots_of_norm, prime, 2)
            self.refused(InvalidPrime, lots_of_norm, prime, None)
        for value in NO_INTEGERS + (0, -1, 61, SIXTY):
            self.refused_with(InvalidCount, "value", value, lots_of_norm, 11, value)

    def test_class_of(self):
        chance = random.Random(145)
        for prime in PRIMES:
            found = list(FULL[prime])
            chance.shuffle(found)
            for k, lot in enumerate(found):
                self.same([class_of(tuple(found), lot), class_of(tuple(found), self.one_alike(chance, lot))], [k, k])
            lot = random_lot(chance, prime)
            self.assertIs(are_alike_lots(found[class_of(tuple(found), lot)], lot), True)

    def test_class_of_refused(self):
        for value in NO_FULL:
            self.refused(InvalidLot, class_of, value, ELEVEN)
            self.refused(InvalidLot, class_of, value, None)
        for value in NO_LOTS:
            self.refused(InvalidLot, class_of, FULL[11], value)
        self.refused(InvalidOperation, class_of, FULL[11], WHOLE[13])
        self.refused(InvalidOperation, class_of, FULL[13], ELEVEN)


class Statements(Case):
    def test_what_is_not_true(self):
        """[11.8]"""
        self.assertFalse(are_alike_lots(NEAR[0], NEAR[2]))
        # The whole lot and itself are alike, and not all of their neighbours are.
        self.assertTrue(NEAR[0].size == NEAR[2].size)
        counts = [len(lot) for lot in FULL[97]]
        self.assertLess(len(set(counts)), len(counts))
        x, y = (1, 2, 0, -1), (0, 1, 1, 0)
        order = ORDERS[11]
        self.assertEqual(ELEVEN.behind(x).behind(y), ELEVEN.behind(order.multiplied(x, y)))
        self.assertNotEqual(ELEVEN.behind(y).behind(x), ELEVEN.behind(order.multiplied(x, y)))
        two, three = NEAR[0], neighbours(ELEVEN, 3)[0]
        self.assertTrue(any(row in two and row in three for row in two.shared(three).rows))


if __name__ == "__main__":
    unittest.main()
