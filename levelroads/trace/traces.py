"""Traces of the doings on the staying half of a level, by counting binary forms."""

from math import gcd, isqrt

from levelroads.base.numbers import check_bounded, check_level, check_proper
from levelroads.base.numbers import count_units, divisor_sum, divisors, is_integer, prime_powers, roots_modulo
from levelroads.base.ratios import Ratio, exact_ratio
from levelroads.errors import InvalidCount
from levelroads.form.binary import weighted_number
from levelroads.pair.pairs import count_pairs

MAX_TRACED = 200


def _check_both(level, number):
    check_level(level)
    check_bounded(number, 1, MAX_TRACED)
    check_proper(level, number)


def pairs_met(number):
    """The ascending tuple of the triples (t, f, measure met) of all pairs met by a number."""
    check_bounded(number, 1, MAX_TRACED)
    return _pairs_met(number)


def _pairs_met(number):
    most = isqrt(4 * number - 1)
    found = []
    for t in range(-most, most + 1):
        for f in range(1, isqrt(4 * number - t * t) + 1):
            if _is_met(number, t, f):
                found.append((t, f, (4 * number - t * t) // (f * f)))
    return tuple(found)


def _is_met(number, t, f):
    measure, rest = divmod(4 * number - t * t, f * f)
    return rest == 0 and measure % 4 in (0, 3)


def times_of(level, number, t, f):
    """The times of a pair met by a number."""
    check_level(level)
    check_bounded(number, 1, MAX_TRACED)
    if not is_integer(t) or t * t >= 4 * number:
        raise InvalidCount(t)
    if not is_integer(f) or f < 1 or not _is_met(number, t, f):
        raise InvalidCount(f)
    check_proper(level, number)
    return _times(level, number, t, f)


def _times(level, number, t, f):
    shared = gcd(level, f)
    roots = roots_modulo(level * shared, -t, number)
    solutions = len({x % level for x in roots})
    return count_pairs(level) // count_pairs(level // shared) * solutions


def trace_parts(level, number):
    """The tuple of the four parts of the trace of T_n, n being the number, on the staying half of a level."""
    _check_both(level, number)
    return _parts(level, number)


def _parts(level, number):
    is_square = isqrt(number) * isqrt(number) == number
    first = exact_ratio(count_pairs(level), 12) if is_square else Ratio(0)
    second = Ratio(0)
    for t, f, measure in _pairs_met(number):
        second = second.plus(weighted_number(measure).times(_times(level, number, t, f)))
    third = sum([min(d, number // d) * _crossings(level, number // d - d) for d in divisors(number)])
    return first, second.over(-2), exact_ratio(-third, 2), Ratio(divisor_sum(number))


def _crossings(level, difference):
    many = 0
    for c in divisors(level):
        shared = gcd(c, level // c)
        if difference % shared == 0:
            many = many + count_units(shared)
    return many


def trace_of(level, number):
    """The trace of T_n, n being the number, on the staying half of a level."""
    _check_both(level, number)
    return _trace(level, number)


def _trace(level, number):
    total = Ratio(0)
    for part in _parts(level, number):
        total = total.plus(part)
    return total.top


def dimension_of(level):
    """The dimension of the staying half of a level, as the trace of T_1."""
    check_level(level)
    return _trace(level, 1)


def new_trace(level, number):
    """The new trace of T_n, n being the number, at a level."""
    _check_both(level, number)
    return sum([newness(level // below) * _trace(below, number) for below in divisors(level)])


def newness(quotient):
    """The integer b of the new traces for the quotient of a level by one of its divisors."""
    product = 1
    for times in prime_powers(quotient).values():
        product = product * (-2 if times == 1 else 1 if times == 2 else 0)
    return product
