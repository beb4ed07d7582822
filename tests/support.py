"""What several test files need."""

import unittest

from levelroads.base.ratios import Ratio
from levelroads.errors import InvalidLevel

SIXTY = 10 ** 60 - 1
SIXTY_ONE = 10 ** 60
HUNDRED = 10 ** 100 - 1

# A value of each kind that can be passed and is no integer.
NO_INTEGERS = (
    None, True, False, "", "1", "a", "~" * 4000, (), (1,), (1, 2), ((((((((1,),),),),),),),), [], [1], [[2]],
    {}, {1: 2}, {"a": [1]}, Ratio(1), (Ratio(2),), SIXTY_ONE, -SIXTY_ONE, HUNDRED, -HUNDRED, InvalidLevel("x"),
)
# None of these is an integer of any length either.
NO_WHOLES = tuple(value for value in NO_INTEGERS if not (isinstance(value, int) and abs(value) > 1))

NO_LEVELS = NO_INTEGERS + (0, -1, 101, SIXTY, -SIXTY)
NO_MATRICES = NO_INTEGERS + (
    0, 5, (1, 2, 3), (1, 2, 3, 4, 5), [1, 0, 0, 1], ((1, 0), (0, 1)), (1, 0, 0, True), (False, 1, 1, 0),
    (1, 0, 0, "1"), (1, 0, None, 1), (1, SIXTY_ONE, 0, 1), (-SIXTY_ONE, 0, 0, 1), ((1, 0, 0, 1),), "1001",
)


class Case(unittest.TestCase):
    """Tests that also ask what an error is and what it keeps."""

    def refused(self, error, call, *args, **named):
        with self.assertRaises(error) as caught:
            call(*args, **named)
        self.assertIs(type(caught.exception), error)
        return caught.exception

    def refused_with(self, error, name, kept, call, *args, **named):
        held = getattr(self.refused(error, call, *args, **named), name)
        self.assertIs(type(held), type(kept))
        self.assertEqual(held, kept)

    def same(self, value, wanted):
        """Equal, and of the same kinds of values throughout."""
        self.assertEqual(repr(value), repr(wanted))


def ratios(*rows):
    """The table of rows of what `Ratio` takes, or of texts of ratios."""
    return tuple(tuple(Ratio.read(str(entry)) for entry in row) for row in rows)


def texts(rows):
    """A table as a list of lists of texts."""
    return [[str(entry) for entry in row] for row in rows]


def matrix_product(one, other):
    """The product of two matrices of two rows."""
    a, b, c, d = one
    e, f, g, h = other
    return a * e + b * g, a * f + b * h, c * e + d * g, c * f + d * h
