"""Polynomials with integers: products, quotients, common divisors and factors."""

from math import isqrt

from levelroads.base.factors import common_of, factors_by_prime, good_prime, product_of, quotient_of, without_repeated
from levelroads.base.numbers import check_integers, is_integer, is_whole
from levelroads.errors import InvalidOperation, InvalidPolynomial, TooMany

MAX_DEGREE = 60
MAX_FACTORED = 12

# Factors of the degrees 1 and 2 are told by the divisors of a few values, but only of values up to this one, and only
# if so many pairs of divisors are to be tried. All other factors come from those modulo a prime number.
_SMALL = 50000
_FEW = 1000


def is_polynomial(value):
    """Whether a value is a polynomial, with integers of any length."""
    if not isinstance(value, tuple) or len(value) > MAX_DEGREE + 1:
        return False
    return all([is_whole(entry) for entry in value]) and (not value or value[-1] != 0)


def _check_polynomial(poly):
    if not is_polynomial(poly) or not all([is_integer(entry) for entry in poly]):
        raise InvalidPolynomial("a polynomial is a tuple of at most 61 integers, the last one not 0")


def poly_product(one, other):
    """The product of two polynomials."""
    _check_polynomial(one)
    _check_polynomial(other)
    product = product_of(one, other)
    if len(product) > MAX_DEGREE + 1:
        raise TooMany(MAX_DEGREE)
    return product


def poly_quotient(one, other):
    """The polynomial whose product with the second one is the first one, or None."""
    _check_polynomial(one)
    _check_polynomial(other)
    if not other:
        raise InvalidOperation("nothing is divided by zero")
    return quotient_of(one, other)


def poly_value(poly, number):
    """The value of a polynomial at an integer."""
    _check_polynomial(poly)
    check_integers((number,))
    return _value(poly, number)


def _value(poly, number):
    value = 0
    for entry in poly[::-1]:
        value = value * number + entry
    return value


def poly_common(one, other):
    """The common divisor of the greatest degree, of integers without a common divisor, the last one above 0."""
    _check_polynomial(one)
    _check_polynomial(other)
    if not one and not other:
        raise InvalidOperation("one of both polynomials is not zero")
    return common_of(one, other)


def poly_factors(poly):
    """The pairs of the irreducible polynomials that divide a monic one, and of how often they do."""
    _check_factored(poly)
    return _factors_of(poly)


def is_irreducible(poly):
    """Whether a monic polynomial is irreducible."""
    _check_factored(poly)
    return _factors_of(poly) == ((poly, 1),)


def _check_factored(poly):
    _check_polynomial(poly)
    if not poly or poly[-1] != 1:
        raise InvalidOperation("the polynomial is monic")
    if len(poly) > MAX_FACTORED + 1:
        raise TooMany(MAX_FACTORED)


def _factors_of(poly):
    found = {}
    for factor in sorted(_irreducible_factors(poly), key=lambda part: (len(part), part)):
        found[factor] = found.get(factor, 0) + 1
    return tuple([(factor, times) for factor, times in found.items()])


def _irreducible_factors(poly):
    """The list of the irreducible factors of a monic polynomial, each one as often as it divides it."""
    power = 0
    while poly[power] == 0:
        power = power + 1
    found = [(0, 1)] * power
    rest = poly[power:]
    is_small = abs(rest[0]) <= _SMALL
    if len(rest) > 3 and is_small:
        roots, rest = _parted_by_roots(rest)
        found = found + [(-root, 1) for root in roots]
    if len(rest) <= 3:
        return found + _factors_to_two(rest)
    if len(rest) == 4 and is_small:
        return found + [rest]
    return found + (_factors_without_roots(rest) if is_small else _factors_by_prime(rest))


def _factors_to_two(poly):
    """The irreducible factors of a monic polynomial of a degree of at most 2."""
    if len(poly) < 3:
        return [poly] if len(poly) == 2 else []
    constant, linear, _ = poly
    square = linear * linear - 4 * constant
    root = isqrt(square) if square >= 0 else 0
    if root * root != square:
        return [poly]
    return [((linear - root) // 2, 1), ((linear + root) // 2, 1)]


def _factors_without_roots(poly):
    """The irreducible factors of a monic polynomial of a degree of at least 4 that has no integer as a root."""
    if abs(sum(poly)) > _SMALL:
        return _factors_by_prime(poly)
    ends, ones = _signed_divisors(poly[0]), _signed_divisors(sum(poly))
    if len(ends) * len(ones) > _FEW:
        return _factors_by_prime(poly)
    found, rest = _parted_by_quadratics(poly, ends, ones)
    # Without factors of the degrees 1 and 2 there are two others only from the degree 6 on.
    return found + ([rest] if len(rest) < 7 else _factors_by_prime(rest))


def _signed_divisors(number):
    """All divisors of an integer other than 0, with both signs."""
    positive = abs(number)
    low = [divisor for divisor in range(1, isqrt(positive) + 1) if positive % divisor == 0]
    found = []
    for divisor in low:
        found.extend([divisor, -divisor])
        if divisor * divisor != positive:
            found.extend([positive // divisor, -(positive // divisor)])
    return found


def _at_minus(poly):
    """The value at -1."""
    return sum(poly[::2]) - sum(poly[1::2])


def _parted_by_roots(poly):
    """Integers that are roots of a polynomial, and what is left without their factors.

    What is left has no integer as a root if its degree is above 2.
    """
    # A root that is an integer divides the value at 0, and so do the roots of what is moved by 1 to either side.
    one, minus = sum(poly), _at_minus(poly)
    roots = []
    rest = poly
    for root in _signed_divisors(poly[0]):
        if len(rest) == 3:
            return roots, rest
        if (root == 1 or one % (root - 1) == 0) and (root == -1 or minus % (root + 1) == 0):
            quotient = _over_root(rest, root)
            while quotient and len(rest) > 3:
                roots.append(root)
                rest = quotient
                quotient = _over_root(rest, root)
    return roots, rest


def _over_root(poly, root):
    """The polynomial divided by X less an integer, or None if this is no root."""
    value = 0
    entries = []
    for entry in poly[::-1]:
        value = value * root + entry
        entries.append(value)
    return None if value else tuple(entries[-2::-1])


def _parted_by_quadratics(poly, ends, ones):
    """Factors of the degree 2 of a polynomial without integers as roots, and what is left without them.

    What is left has none of the degree 2 if its degree is above 3. The integers `ends` and `ones` are all that divide
    the values at 0 and at 1.
    """
    minus, two, far = _at_minus(poly), _value(poly, 2), _value(poly, -2)
    found = []
    rest = poly
    for end in ends:
        for one in ones:
            # The values of X X + b X + end at 1, -1, 2 and -2 divide those of the polynomial.
            b = one - 1 - end
            other = one - 2 * b
            if other and minus % other == 0 and _divides(4 + 2 * b + end, two) and _divides(4 - 2 * b + end, far):
                quotient = quotient_of(rest, (end, b, 1))
                while quotient and len(rest) > 4:
                    found.append((end, b, 1))
                    rest = quotient
                    quotient = quotient_of(rest, (end, b, 1))
        if len(rest) <= 4:
            return found, rest
    return found, rest


def _divides(part, whole):
    return part != 0 and whole % part == 0


def _factors_by_prime(poly):
    """The irreducible factors of a monic polynomial of any degree of at least 1."""
    prime = good_prime(poly)
    if prime is not None:
        return factors_by_prime(poly, prime)
    single = without_repeated(poly)
    return [factor for factor in _irreducible_factors(single) for _ in range(_times_in(poly, factor))]


def _times_in(poly, factor):
    times = 0
    rest = quotient_of(poly, factor)
    while rest is not None:
        times = times + 1
        rest = quotient_of(rest, factor)
    return times
