"""Fractions, and the rims of a level: the classes into which its group parts them."""

from math import gcd

from levelroads.base.numbers import check_level, check_matrix, count_units, divisors, inverse_modulo, is_whole
from levelroads.errors import InvalidFraction, InvalidMatrix

MAX_PART = 10 ** 20


def is_fraction(value):
    """Whether a value is a fraction as it can be passed."""
    if not isinstance(value, tuple) or len(value) != 2 or not all([is_whole(part) for part in value]):
        return False
    top, bottom = value
    if not -MAX_PART <= top <= MAX_PART or not 0 <= bottom <= MAX_PART:
        return False
    return value == (1, 0) if bottom == 0 else gcd(top, bottom) == 1


def is_matrix(value):
    """Whether a value is a matrix, of integers of any length."""
    return isinstance(value, tuple) and len(value) == 4 and all([is_whole(entry) for entry in value])


def check_fraction(fraction):
    """Refuse what is no fraction that can be passed."""
    if not is_fraction(fraction):
        raise InvalidFraction("a fraction is a top and a bottom in least terms, both of at most 10 ** 20")


def matrix_determinant(matrix):
    """The determinant of a matrix, of any length."""
    a, b, c, d = matrix
    return a * d - b * c


def led_fraction(matrix, fraction):
    """The fraction to which a matrix leads a fraction."""
    check_matrix(matrix)
    if matrix_determinant(matrix) == 0:
        raise InvalidMatrix("the determinant is not 0")
    check_fraction(fraction)
    return _led(matrix, fraction)


def _led(matrix, fraction):
    a, b, c, d = matrix
    p, q = fraction
    top, bottom = a * p + b * q, c * p + d * q
    shared = gcd(top, bottom)
    if bottom < 0 or (bottom == 0 and top < 0):
        shared = -shared
    return top // shared, bottom // shared


def rims(level):
    """The ascending tuple of all rims of a level."""
    check_level(level)
    found = []
    for bottom in divisors(level):
        modulus = gcd(bottom, level // bottom)
        for left in range(modulus):
            if gcd(left, modulus) == 1:
                found.append((_least_top(bottom, modulus, left), bottom))
    return tuple(sorted(found))


def _least_top(bottom, modulus, left):
    top = left % modulus
    while gcd(top, bottom) > 1:
        top = top + modulus
    return top


def count_rims(level):
    """The number of the rims of a level."""
    check_level(level)
    return sum([count_units(gcd(bottom, level // bottom)) for bottom in divisors(level)])


def rim_of(level, fraction):
    """The rim of a fraction."""
    check_level(level)
    check_fraction(fraction)
    return told_rim(level, fraction)


def told_rim(level, fraction):
    """The same for what surely are a level and a fraction."""
    p, q = fraction
    bottom = gcd(q, level)
    return _least_top(bottom, gcd(bottom, level // bottom), p * (q // bottom)), bottom


def width_of(level, fraction):
    """The width of a fraction."""
    check_level(level)
    check_fraction(fraction)
    return _width(level, fraction)


def _width(level, fraction):
    return level // gcd(level, fraction[1] * fraction[1])


def are_same_rim(level, one, other):
    """Whether two fractions are in one class."""
    _check_both(level, one, other)
    return told_rim(level, one) == told_rim(level, other)


def _check_both(level, one, other):
    check_level(level)
    check_fraction(one)
    check_fraction(other)


def rim_paper(level, one, other):
    """A matrix of the group that leads one fraction to another one, or None."""
    _check_both(level, one, other)
    # What leads (1, 0) to the other fraction, behind what leads the first one to (1, 0),
    # and between both any number of steps (1, 1, 0, 1), which keep (1, 0).
    p, x, q, y = _matrix_to(one)
    a, b, c, d = _matrix_to(other)
    for steps in range(level):
        upper, lower = b + steps * a, d + steps * c
        paper = (a * y - upper * q, upper * p - a * x, c * y - lower * q, lower * p - c * x)
        if paper[2] % level == 0:
            return paper
    return None


def _matrix_to(fraction):
    """A matrix of the determinant 1 that leads (1, 0) to a fraction."""
    p, q = fraction
    if q == 0:
        return 1, 0, 0, 1
    y = inverse_modulo(q, p)
    return p, (p * y - 1) // q, q, y


def is_rim_paper(level, one, other, value):
    """Whether a value is a matrix of the group that leads one fraction to another one."""
    _check_both(level, one, other)
    if not is_matrix(value) or matrix_determinant(value) != 1 or value[2] % level != 0:
        return False
    return _led(value, one) == other


def keeper_of(level, fraction):
    """The matrix that, with its powers, tells all matrices of the group that lead a fraction to itself."""
    check_level(level)
    check_fraction(fraction)
    p, q = fraction
    width = _width(level, fraction)
    return 1 - p * q * width, p * p * width, -q * q * width, 1 + p * q * width
