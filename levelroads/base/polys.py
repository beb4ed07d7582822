"""Polynomials with integers: products, quotients, common divisors and factors."""

from levelroads.base.factors import common_of, irreducible_factors, product_of, quotient_of, without_repeated
from levelroads.base.numbers import is_integer, is_whole
from levelroads.errors import InvalidCount, InvalidOperation, InvalidPolynomial, TooMany

MAX_DEGREE = 60
MAX_FACTORED = 12


def is_polynomial(value):
    """Whether a value is a polynomial, with integers of any length."""
    if not isinstance(value, tuple) or len(value) > MAX_DEGREE + 1:
        return False
    return all([is_whole(entry) for entry in value]) and (not value or value[-1] != 0)


def _check_polynomial(poly):
    if not is_polynomial(poly) or not all([is_integer(entry) for entry in poly]):
        raise InvalidPolynomial("a polynomial is a tuple of at most 61 integers, the last one not 0")


def poly_product(one, other):
    """The product of two polynomials."""
    _check_polynomial(one)
    _check_polynomial(other)
    product = product_of(one, other)
    if len(product) > MAX_DEGREE + 1:
        raise TooMany(MAX_DEGREE)
    return product


def poly_quotient(one, other):
    """The polynomial whose product with the second one is the first one, or None."""
    _check_polynomial(one)
    _check_polynomial(other)
    if not other:
        raise InvalidOperation("nothing is divided by zero")
    return quotient_of(one, other)


def poly_value(poly, number):
    """The value of a polynomial at an integer."""
    _check_polynomial(poly)
    if not is_integer(number):
        raise InvalidCount(number)
    value = 0
    for entry in poly[::-1]:
        value = value * number + entry
    return value


def poly_common(one, other):
    """The common divisor of the greatest degree, of integers without a common divisor, the last one above 0."""
    _check_polynomial(one)
    _check_polynomial(other)
    if not one and not other:
        raise InvalidOperation("one of both polynomials is not zero")
    return common_of(one, other)


def poly_factors(poly):
    """The pairs of the irreducible polynomials that divide a monic one, and of how often they do."""
    _check_factored(poly)
    return _factors_of(poly)


def is_irreducible(poly):
    """Whether a monic polynomial is irreducible."""
    _check_factored(poly)
    return _factors_of(poly) == ((poly, 1),)


def _check_factored(poly):
    _check_polynomial(poly)
    if not poly or poly[-1] != 1:
        raise InvalidOperation("the polynomial is monic")
    if len(poly) > MAX_FACTORED + 1:
        raise TooMany(MAX_FACTORED)


def _factors_of(poly):
    if len(poly) == 1:
        return ()
    found = [(factor, _times_in(poly, factor)) for factor in irreducible_factors(without_repeated(poly))]
    return tuple(sorted(found, key=lambda pair: (len(pair[0]), pair[0])))


def _times_in(poly, factor):
    times = 0
    rest = quotient_of(poly, factor)
    while rest is not None:
        times = times + 1
        rest = quotient_of(rest, factor)
    return times
