"""The group of a level: its matrices, those of each pair, the rounds of pairs, and the genus."""

from levelroads.base.numbers import check_level, check_matrix, inverse_modulo, roots_modulo
from levelroads.errors import InvalidMatrix
from levelroads.pair.pairs import check_pair, count_pairs, least_pair, orbit_of
from levelroads.rim.rims import count_rims, is_matrix, matrix_determinant


def is_member(level, value):
    """Whether a value is a matrix of the group of a level."""
    check_level(level)
    return is_matrix(value) and matrix_determinant(value) == 1 and value[2] % level == 0


def matrix_product(one, other):
    """The product of two matrices."""
    check_matrix(one)
    check_matrix(other)
    return product_matrix(one, other)


def product_matrix(one, other):
    """The product of two matrices of integers of any length."""
    a, b, c, d = one
    x, y, z, w = other
    return a * x + b * z, a * y + b * w, c * x + d * z, c * y + d * w


def matrix_back(one):
    """The matrix that undoes a matrix of the determinant 1."""
    check_matrix(one)
    if matrix_determinant(one) != 1:
        raise InvalidMatrix("the determinant is 1")
    a, b, c, d = one
    return d, -b, -c, a


def matrix_of(level, pair):
    """A matrix of the determinant 1 whose second row tells a pair of a level."""
    check_pair(level, pair)
    return told_matrix(pair)


def told_matrix(pair):
    """The same for what surely is a pair of some level."""
    c, d = pair
    if c == 0:
        return 1, 0, 0, 1
    # The least tuple of a pair has no common divisor above 1, so it can be a second row as it is.
    a = inverse_modulo(c, d)
    return a, (a * d - 1) // c, c, d


def is_matrix_of(level, pair, value):
    """Whether a value is a matrix of the determinant 1 whose second row tells a pair."""
    check_pair(level, pair)
    if not is_matrix(value) or matrix_determinant(value) != 1:
        return False
    return least_pair(level, value[2], value[3]) == pair


def pair_round(level, pair):
    """The round of a pair: the tuple of (c, d), (c, c + d), (c, 2 c + d) and so on."""
    return orbit_of(level, pair, (1, 1, 0, 1))


def count_fourfold(level):
    """The number of the residues x modulo a level for which it divides x x + 1."""
    check_level(level)
    return len(roots_modulo(level, 0, 1))


def count_threefold(level):
    """The number of the residues x modulo a level for which it divides x x + x + 1."""
    check_level(level)
    return len(roots_modulo(level, 1, 1))


def genus(level):
    """The genus of a level, by its counts."""
    folds = 3 * count_fourfold(level) + 4 * count_threefold(level)
    return (12 + count_pairs(level) - folds - 6 * count_rims(level)) // 12
