"""The cubics of the levels of the genus 1, and their points modulo a prime."""

from levelroads.base.numbers import check_level
from levelroads.errors import InvalidOperation
from levelroads.quat.quaternions import check_prime

CUBIC_LEVELS = (11, 14, 15, 17, 19, 20, 21, 24, 27, 32, 36, 49)

_CUBICS = {
    11: (0, -1, 1, 0, 0), 14: (1, 0, 1, -1, 0), 15: (1, 1, 1, 0, 0), 17: (1, -1, 1, -1, 0),
    19: (0, 1, 1, 1, 0), 20: (0, 1, 0, -1, 0), 21: (1, 0, 0, 1, 0), 24: (0, -1, 0, 1, 0),
    27: (0, 0, 1, 0, 0), 32: (0, 0, 0, -1, 0), 36: (0, 0, 0, 0, 1), 49: (1, -1, 0, -2, -1),
}


def _check_cubic(level):
    if level not in CUBIC_LEVELS:
        raise InvalidOperation("the level has the genus 1")


def _check_both(level, prime):
    check_level(level)
    check_prime(prime)
    _check_cubic(level)
    if level % prime == 0:
        raise InvalidOperation("the prime does not divide the level")


def cubic_of(level):
    """The five integers of the cubic of a level."""
    check_level(level)
    _check_cubic(level)
    return _CUBICS[level]


def points_of(level, prime):
    """The ascending tuple of the points modulo a prime, but the endless one."""
    _check_both(level, prime)
    return _points(level, prime)


def _points(level, prime):
    a1, a2, a3, a4, a6 = _CUBICS[level]
    shown = _differences(prime)
    points = []
    for x in range(prime):
        value = (((x + a2) * x + a4) * x + a6) % prime
        points.extend([(x, y) for y in _roots(shown, prime, a1 * x + a3, value)])
    return tuple(points)


def _differences(prime):
    """For each residue modulo a prime the list of those whose squares leave it."""
    shown = [[] for _ in range(prime)]
    for y in range(prime):
        shown[y * y % prime].append(y)
    return shown


def _roots(shown, prime, linear, value):
    """The ascending list of the residues y for which y * y + linear * y leaves a value."""
    if prime == 2:
        return [y for y in range(2) if (y + linear) * y % 2 == value]
    # Half of what y is multiplied by, added to it, makes a square of the sum.
    half = linear * (prime + 1) // 2 % prime
    return sorted([(root - half) % prime for root in shown[(value + half * half) % prime]])


def count_points(level, prime):
    """The number of all points modulo a prime, with the endless one."""
    _check_both(level, prime)
    return len(_points(level, prime)) + 1


def cubic_number(level, prime):
    """The prime plus 1, less the number of all points."""
    _check_both(level, prime)
    return prime - len(_points(level, prime))
