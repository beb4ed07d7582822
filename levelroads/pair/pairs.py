"""The pairs of a level, told by two integers each, and the matrices that lead them."""

from math import gcd

from levelroads.base.numbers import check_bounded, check_integers, check_level, check_matrix, check_proper
from levelroads.base.numbers import divisors, inverse_modulo, is_integer, prime_powers
from levelroads.errors import InvalidOperation, InvalidPair

MAX_LEVEL = 100


def pairs(level):
    """The ascending tuple of all pairs of a level."""
    check_level(level)
    return _all_pairs(level)


def count_pairs(level):
    """The number of the pairs of a level, its index."""
    check_level(level)
    many = level
    for prime in prime_powers(level):
        many = many // prime * (prime + 1)
    return many


def is_pair(level, value):
    """Whether a value is a pair of the level, written as the least tuple."""
    check_level(level)
    if not isinstance(value, tuple) or len(value) != 2 or not all([is_integer(part) for part in value]):
        return False
    return least_pair(level, value[0], value[1]) == value


def check_pair(level, pair):
    """Refuse what is no level, and then what is no pair of it."""
    if not is_pair(level, pair):
        raise InvalidPair("a pair is told by its least tuple")


def pair_of(level, c, d):
    """The pair that two integers tell."""
    check_level(level)
    check_integers((c, d))
    pair = least_pair(level, c, d)
    if pair is None:
        raise InvalidOperation("two integers with a common divisor with the level tell no pair")
    return pair


def least_pair(level, c, d):
    """The pair that two integers of any length tell, or None."""
    first = gcd(c, level)
    if gcd(first, d) > 1:
        return None
    step = level // first
    return first % level, _least_second(d * inverse_modulo(step, c // first), first, step)


def _least_second(second, first, step):
    # The second integer can be changed by multiples of `step`, as the level divides `first * step`.
    least = second % step
    while gcd(least, first) > 1:
        least = least + step
    return least


def _all_pairs(level):
    found = []
    for first in divisors(level):
        step = level // first
        shared = gcd(first, step)
        for second in range(step):
            if gcd(second, shared) == 1:
                found.append((first % level, _least_second(second, first, step)))
    return tuple(sorted(found))


def pair_number(level, pair):
    """The index of a pair in the ascending sequence of all pairs."""
    check_pair(level, pair)
    return _all_pairs(level).index(pair)


def pair_at(level, number):
    """The pair with an index in the ascending sequence of all pairs."""
    check_level(level)
    check_bounded(number, 0, count_pairs(level) - 1)
    return _all_pairs(level)[number]


def led_pair(level, pair, matrix):
    """The pair to which a matrix leads a pair, or None if it leads it to none."""
    check_pair(level, pair)
    check_matrix(matrix)
    return _led(level, pair, matrix)


def _led(level, pair, matrix):
    c, d = pair
    upper_left, upper_right, lower_left, lower_right = matrix
    return least_pair(level, c * upper_left + d * lower_left, c * upper_right + d * lower_right)


def orbit_of(level, pair, matrix):
    """The tuple of pairs, from a pair on, in which the matrix leads each one to the next one."""
    check_pair(level, pair)
    check_matrix(matrix)
    check_proper(level, matrix[0] * matrix[3] - matrix[1] * matrix[2])
    orbit = [pair]
    following = _led(level, pair, matrix)
    while following != pair:
        orbit.append(following)
        following = _led(level, following, matrix)
    return tuple(orbit)


def fixed_pairs(level, matrix):
    """The ascending tuple of the pairs that a matrix leads to themselves."""
    check_level(level)
    check_matrix(matrix)
    return tuple([pair for pair in _all_pairs(level) if _led(level, pair, matrix) == pair])
