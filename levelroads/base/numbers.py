"""Integers: divisors, prime numbers, and what is counted modulo an integer."""

from math import gcd

from levelroads.errors import InvalidCount, InvalidLevel, InvalidMatrix, InvalidOperation, TooMany

MAX_LEVEL = 100
MAX_NAME = 8
MAX_FACTORED = 10 ** 9
MAX_MODULUS = 10000

_LETTERS = "abcdefghijklmnopqrstuvwxyz"
_TOO_LONG = 10 ** 60


def is_whole(value):
    """Whether a value is an integer of any length."""
    return isinstance(value, int) and not isinstance(value, bool)


def is_integer(value):
    """Whether a value is an integer of at most sixty digits."""
    return isinstance(value, int) and not isinstance(value, bool) and -_TOO_LONG < value < _TOO_LONG


def is_name(value):
    """Whether a value is a name: one to eight letters from a to z."""
    if not isinstance(value, str) or not 1 <= len(value) <= MAX_NAME:
        return False
    return all([letter in _LETTERS for letter in value])


def is_level(value):
    """Whether a value is a level."""
    return is_integer(value) and 1 <= value <= MAX_LEVEL


def is_prime(value):
    """Whether a value is a prime number of at most 10 ** 9."""
    if not is_integer(value) or not 2 <= value <= MAX_FACTORED:
        return False
    return _powers_in(value) == {value: 1}


def check_level(level):
    """Refuse what is no level."""
    if not is_level(level):
        raise InvalidLevel("a level is an integer from 1 to 100")


def check_matrix(matrix):
    """Refuse what is no tuple of four integers of at most sixty digits."""
    if not isinstance(matrix, tuple) or len(matrix) != 4 or not all([is_integer(entry) for entry in matrix]):
        raise InvalidMatrix("a matrix is a tuple of four integers")


def check_integers(numbers):
    """Refuse the first one of some values that is no integer."""
    for number in numbers:
        if not is_integer(number):
            raise InvalidCount(number)


def check_bounded(number, least, most):
    """Refuse what is no integer between two others, or one of these."""
    if not is_integer(number) or not least <= number <= most:
        raise InvalidCount(number)


def check_proper(level, number):
    """Refuse an integer that has a common divisor above 1 with a level."""
    if gcd(level, number) > 1:
        raise InvalidOperation("the number has no common divisor with the level")


def _check_positive(number):
    if not is_integer(number) or number < 1:
        raise InvalidCount(number)


def _check_factored(number):
    if number > MAX_FACTORED:
        raise TooMany(MAX_FACTORED)


def common_divisor(numbers):
    """The greatest integer that divides all integers of a tuple; 0 if they are 0, or none."""
    if not isinstance(numbers, tuple) or not all([is_integer(number) for number in numbers]):
        raise InvalidOperation("the common divisor is that of a tuple of integers")
    common = 0
    for number in numbers:
        common = gcd(common, number)
    return common


def divisors(number):
    """The ascending tuple of all divisors of an integer."""
    _check_positive(number)
    _check_factored(number)
    return _divisors_of(number)


def prime_powers(number):
    """The dict from the prime numbers that divide an integer to how often each one does."""
    _check_positive(number)
    _check_factored(number)
    return _powers_in(number)


def divisor_sum(number, *, without=1):
    """The sum of the divisors that have no common divisor above 1 with `without`."""
    _check_positive(number)
    _check_positive(without)
    _check_factored(number)
    return sum([divisor for divisor in _divisors_of(number) if gcd(divisor, without) == 1])


def _powers_in(number):
    powers = {}
    rest = number
    prime = 2
    while prime * prime <= rest:
        while rest % prime == 0:
            powers[prime] = powers.get(prime, 0) + 1
            rest = rest // prime
        prime = 3 if prime == 2 else prime + 2
    if rest > 1:
        powers[rest] = 1
    return powers


def _divisors_of(number):
    found = [1]
    for prime, many in _powers_in(number).items():
        layer = found
        for _ in range(many):
            layer = [divisor * prime for divisor in layer]
            found = found + layer
    return tuple(sorted(found))


def count_units(modulus):
    """How many units there are modulo an integer."""
    check_bounded(modulus, 1, MAX_MODULUS)
    many = modulus
    for prime in _powers_in(modulus):
        many = many // prime * (prime - 1)
    return many


def unit_inverse(modulus, number):
    """The unit that, multiplied by a number, leaves the same residue as 1."""
    check_bounded(modulus, 1, MAX_MODULUS)
    if not is_integer(number) or gcd(number, modulus) > 1:
        raise InvalidCount(number)
    return inverse_modulo(modulus, number)


def inverse_modulo(modulus, number):
    """The same without checks, for integers of any length."""
    high, low = modulus, number % modulus
    before, now = 0, 1
    while low:
        times = high // low
        high, low = low, high - times * low
        before, now = now, before - times * now
    return before % modulus


def roots_modulo(modulus, linear, constant):
    """The residues x for which the modulus divides x * x + linear * x + constant."""
    check_bounded(modulus, 1, MAX_MODULUS)
    check_integers((linear, constant))
    # Short integers keep the sums below short, too.
    middle, last = linear % modulus, constant % modulus
    return tuple([x for x in range(modulus) if ((x + middle) * x + last) % modulus == 0])
