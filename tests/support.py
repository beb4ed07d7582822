"""What several test files need."""

import unittest
from math import gcd

from levelroads.base.ratios import Ratio
from levelroads.errors import InvalidLevel

SIXTY = 10 ** 60 - 1
SIXTY_ONE = 10 ** 60
HUNDRED = 10 ** 100 - 1
GREAT = 10 ** 20
IDENTITY = (1, 0, 0, 1)

# A value of each kind that can be passed and is no integer.
NO_INTEGERS = (
    None, True, False, "", "1", "a", "~" * 4000, (), (1,), (1, 2), ((((((((1,),),),),),),),), [], [1], [[2]],
    {}, {1: 2}, {"a": [1]}, Ratio(1), (Ratio(2),), SIXTY_ONE, -SIXTY_ONE, HUNDRED, -HUNDRED, InvalidLevel("x"),
)
# None of these is an integer of any length either.
NO_WHOLES = tuple(value for value in NO_INTEGERS if not (isinstance(value, int) and abs(value) > 1))

NO_LEVELS = NO_INTEGERS + (0, -1, 101, SIXTY, -SIXTY)
NO_MATRICES = NO_INTEGERS + (
    0, 5, (1, 2, 3), (1, 2, 3, 4, 5), [1, 0, 0, 1], ((1, 0), (0, 1)), (1, 0, 0, True), (False, 1, 1, 0),
    (1, 0, 0, "1"), (1, 0, None, 1), (1, SIXTY_ONE, 0, 1), (-SIXTY_ONE, 0, 0, 1), ((1, 0, 0, 1),), "1001",
)
NO_FRACTIONS = tuple(value for value in NO_INTEGERS if value != (1, 2)) + (
    0, 1, (0,), (1, 2, 3), [1, 2], [(1, 2)], ((1, 2),), (2, 4), (0, 2), (0, 0), (-1, 0), (2, 0), (1, -2), (-1, -2),
    (0, -1), (True, 2), (1, True), (False, 1), (1, False), ("1", 2), (1, "2"), (1, None), "1/2", (GREAT + 1, 1),
    (-GREAT - 1, 1), (1, GREAT + 1), (3, GREAT + 9), (SIXTY, 1), (1, SIXTY_ONE), ((1,), 2), {1: 2},
)
# None of these is a pair of the level 12.
NO_PAIRS = tuple(value for value in NO_INTEGERS if value != (1, 2)) + (
    0, 5, (0, 0), (2, 2), (2, 4), (2, 7), (10, 3), (0, 5), (5, 1), (1, 12), (1, -1), (-1, 1), (0, 1, 2), [0, 1],
    ((0, 1),), ("0", 1), (0, True), (True, 2), (0, None), (False, 1), (1, SIXTY_ONE), "01", {0: 1},
)


class Case(unittest.TestCase):
    """Tests that also ask what an error is and what it keeps."""

    def refused(self, error, call, *args, **named):
        with self.assertRaises(error) as caught:
            call(*args, **named)
        self.assertIs(type(caught.exception), error)
        return caught.exception

    def refused_with(self, error, name, kept, call, *args, **named):
        held = getattr(self.refused(error, call, *args, **named), name)
        self.assertIs(type(held), type(kept))
        self.assertEqual(held, kept)

    def same(self, value, wanted):
        """Equal, and of the same kinds of values throughout."""
        self.assertEqual(repr(value), repr(wanted))


def ratios(*rows):
    """The table of rows of what `Ratio` takes, or of texts of ratios."""
    return tuple(tuple(Ratio.read(str(entry)) for entry in row) for row in rows)


def texts(rows):
    """A table as a list of lists of texts."""
    return [[str(entry) for entry in row] for row in rows]


def matrix_product(one, other):
    """The product of two matrices of two rows."""
    a, b, c, d = one
    e, f, g, h = other
    return a * e + b * g, a * f + b * h, c * e + d * g, c * f + d * h


def small_fractions(size):
    """The endless fraction, and those with a bottom and a top, of any sign, up to an integer."""
    found = [(1, 0)]
    for bottom in range(1, size + 1):
        found += [(top, bottom) for top in range(-size, size + 1) if gcd(top, bottom) == 1]
    return found


def in_group(level, matrix):
    a, b, c, d = matrix
    return a * d - b * c == 1 and c % level == 0


def random_member(chance, level, size):
    """A matrix of the group, as a product of some that surely are in it."""
    result = IDENTITY
    for _ in range(size):
        times = chance.randint(-3, 3)
        step = chance.choice(((1, times, 0, 1), (1, 0, times * level, 1), (-1, 0, 0, -1)))
        result = matrix_product(result, step)
    return result


def is_echelon(rows):
    """Whether rows of ratios are an echelon, by [2.3]."""
    leads = []
    for row in rows:
        places = [place for place, entry in enumerate(row) if entry.top]
        if not places or str(row[places[0]]) != "1" or (leads and places[0] <= leads[-1]):
            return False
        leads.append(places[0])
    return all(row[lead].top == 0 for k, row in enumerate(rows) for at, lead in enumerate(leads) if k != at)


def total(sums, zero):
    """The sum of some sums of one space."""
    for one in sums:
        zero = zero.plus(one)
    return zero


def mixed(multiples, sums, zero):
    """The sum of some sums, each one multiplied by a ratio."""
    return total([one.scaled(many) for many, one in zip(multiples, sums)], zero)


def random_ratio(chance, size=6):
    return Ratio(chance.randint(-size, size), chance.randint(1, size))


def random_sum(chance, space, size=6):
    return space.sum_of(tuple(random_ratio(chance, size) for _ in space.basis))


def random_fraction(chance, size):
    """A fraction with a top and a bottom up to an integer."""
    while True:
        top, bottom = chance.randint(-size, size), chance.randint(0, size)
        if gcd(top, bottom) == 1 and (bottom or top > 0):
            return top, bottom
