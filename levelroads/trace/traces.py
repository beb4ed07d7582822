"""Traces of the doings on the staying half of a level, by counting binary forms."""

from math import gcd, isqrt

from levelroads.base.numbers import check_bounded, check_level, check_proper
from levelroads.base.numbers import count_units, divisor_sum, divisors, is_integer, prime_powers
from levelroads.base.ratios import exact_ratio
from levelroads.errors import InvalidCount
from levelroads.form.binary import sixfold_number

MAX_TRACED = 200


def _check_both(level, number):
    check_level(level)
    check_bounded(number, 1, MAX_TRACED)
    check_proper(level, number)


def pairs_met(number):
    """The ascending tuple of the triples (t, f, measure met) of all pairs met by a number."""
    check_bounded(number, 1, MAX_TRACED)
    return _pairs_met(number)


def _pairs_met(number):
    positive = _pairs_from_zero(number)
    negative = [(-t, f, measure) for t, f, measure in positive if t]
    return tuple(sorted(negative + positive))


def _pairs_from_zero(number):
    """The pairs met whose integer t is at least 0."""
    found = []
    for t in range(isqrt(4 * number - 1) + 1):
        left = 4 * number - t * t
        for f in range(1, isqrt(left) + 1):
            if left % (f * f) == 0 and left // (f * f) % 4 in (0, 3):
                found.append((t, f, left // (f * f)))
    return found


def _is_met(number, t, f):
    measure, rest = divmod(4 * number - t * t, f * f)
    return rest == 0 and measure % 4 in (0, 3)


def times_of(level, number, t, f):
    """The times of a pair met by a number."""
    check_level(level)
    check_bounded(number, 1, MAX_TRACED)
    if not is_integer(t) or t * t >= 4 * number:
        raise InvalidCount(t)
    if not is_integer(f) or f < 1 or not _is_met(number, t, f):
        raise InvalidCount(f)
    check_proper(level, number)
    return _times(level, number, t, f)


# The times, the index and the crossings of a level are products over the primes that divide it, of what they are for
# the power of this prime. So is the sum over the divisors that a new trace is, for each one: a tower has a prime, and
# the pairs of its powers and of the integers by which what they tell is multiplied, before it is added up.


def _towers(level):
    """The towers of a level: the power that divides it alone."""
    return [(prime, ((_power_of(prime, times), 1),)) for prime, times in prime_powers(level).items()]


def _new_towers(level):
    """The towers of the new traces of a level."""
    found = []
    for prime, times in prime_powers(level).items():
        powers = [(_power_of(prime, times), 1), (_power_of(prime, times - 1), -2)]
        if times > 1:
            powers.append((_power_of(prime, times - 2), 1))
        found.append((prime, tuple(powers)))
    return found


def _power_of(prime, times):
    power = 1
    for _ in range(times):
        power = power * prime
    return power


def _over(towers, told):
    """The product over all towers of the sums of what is told by a prime and a power of it."""
    product = 1
    for prime, powers in towers:
        # Often the times are 0 for one prime: then those for all others need not be counted.
        if product:
            product = product * sum([many * told(prime, power) for power, many in powers])
    return product


def _index_at(prime, power):
    return power + power // prime


def _times_at(prime, power, number, t, f):
    shared = gcd(power, f)
    if shared == 1:
        return len([x for x in range(power) if (x * (x - t) + number) % power == 0])
    modulus = power * shared
    solutions = len({x % power for x in range(modulus) if (x * (x - t) + number) % modulus == 0})
    return solutions * (shared if shared < power else _index_at(prime, power))


def _crossings_at(prime, power, difference):
    many = 0
    below = 1
    while below <= power:
        shared = gcd(below, power // below)
        if difference % shared == 0:
            many = many + count_units(shared)
        below = below * prime
    return many


def _times(level, number, t, f):
    return _over(_towers(level), lambda prime, power: _times_at(prime, power, number, t, f))


def _twelvefold_parts(towers, number):
    """The four parts, multiplied by 12."""
    is_square = isqrt(number) * isqrt(number) == number
    first = _over(towers, _index_at) if is_square else 0
    second = 0
    for t, f, measure in _pairs_from_zero(number):
        times = _over(towers, lambda prime, power: _times_at(prime, power, number, t, f))
        if times:
            # The pairs of t and -t are told the same.
            second = second + (2 if t else 1) * times * sixfold_number(measure)
    third = 0
    for d in divisors(number):
        other = number // d
        third = third + min(d, other) * _over(towers, lambda prime, power: _crossings_at(prime, power, other - d))
    return first, -second, -6 * third, 12 * divisor_sum(number) * _over(towers, lambda prime, power: 1)


def trace_parts(level, number):
    """The tuple of the four parts of the trace of T_n, n being the number, on the staying half of a level."""
    _check_both(level, number)
    return tuple([exact_ratio(part, 12) for part in _twelvefold_parts(_towers(level), number)])


def trace_of(level, number):
    """The trace of T_n, n being the number, on the staying half of a level."""
    _check_both(level, number)
    return sum(_twelvefold_parts(_towers(level), number)) // 12


def dimension_of(level):
    """The dimension of the staying half of a level, as the trace of T_1."""
    return trace_of(level, 1)


def new_trace(level, number):
    """The new trace of T_n, n being the number, at a level."""
    _check_both(level, number)
    return sum(_twelvefold_parts(_new_towers(level), number)) // 12


def newness(quotient):
    """The integer b of the new traces for the quotient of a level by one of its divisors."""
    product = 1
    for times in prime_powers(quotient).values():
        product = product * (-2 if times == 1 else 1 if times == 2 else 0)
    return product
