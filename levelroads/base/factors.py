"""Polynomials with integers without checks, and the factors of monic ones by those modulo a prime number.

A polynomial is a tuple of integers, that of the power 0 first, the last one not 0. Modulo a prime number it is a list
of residues, the last one not 0.
"""

from math import comb, gcd, isqrt

from levelroads.base.numbers import inverse_modulo, is_prime

# With lesser prime numbers more steps of lifting are needed, with greater ones more tries of splitting.
_LEAST_PRIME = 5
# So many prime numbers are tried before a polynomial is asked for repeated factors.
_TRIES = 2


def trimmed(entries):
    """The list of some integers without zeros at its end."""
    size = len(entries)
    while size and entries[size - 1] == 0:
        size = size - 1
    return entries[:size]


def product_of(one, other):
    """The product of two polynomials."""
    if not one or not other:
        return ()
    entries = [0] * (len(one) + len(other) - 1)
    for low, factor in enumerate(one):
        if factor:
            for at, entry in enumerate(other):
                entries[low + at] += factor * entry
    return tuple(entries)


def quotient_of(one, other):
    """The polynomial whose product with the second one is the first one, or None."""
    rest = list(one)
    entries = []
    lead = other[-1]
    for low in range(len(one) - len(other), -1, -1):
        factor, left = divmod(rest[-1], lead)
        if left:
            return None
        rest.pop()
        if factor:
            rest[low:] = [entry - factor * less for entry, less in zip(rest[low:], other)]
        entries.append(factor)
    return None if any(rest) else tuple(entries[::-1])


def common_of(one, other):
    """The common divisor of the greatest degree, of integers without a common divisor."""
    high, low = _primitive(one), _primitive(other)
    while low:
        high, low = low, _primitive(_pseudo_rest(high, low))
    return high


def _primitive(poly):
    shared = 0
    for entry in poly:
        shared = gcd(shared, entry)
    if poly and poly[-1] < 0:
        shared = -shared
    return tuple([entry // shared for entry in poly])


def _pseudo_rest(one, other):
    """What is left of some multiple of a polynomial behind division by another one."""
    rest = one
    while len(rest) >= len(other):
        shared = gcd(rest[-1], other[-1])
        up, down = other[-1] // shared, rest[-1] // shared
        entries = [up * entry for entry in rest]
        low = len(rest) - len(other)
        for at, entry in enumerate(other):
            entries[low + at] -= down * entry
        rest = trimmed(entries)
    return rest


def without_repeated(poly):
    """The product of the irreducible factors of a monic polynomial, each taken once."""
    return quotient_of(poly, common_of(poly, _derived(poly)))


def _derived(poly):
    return tuple([power * entry for power, entry in enumerate(poly)][1:])


def factors_by_prime(poly, prime):
    """The list of the irreducible factors of a monic polynomial that has no repeated ones modulo a prime number."""
    parts = _split([entry % prime for entry in poly], prime)
    if len(parts) == 1:
        return [poly]
    lifted, modulus = _lifted(poly, parts, prime)
    return _joined(poly, lifted, modulus)


def good_prime(poly):
    """A prime number modulo which a monic polynomial has no repeated factors, or None if it has some itself."""
    prime = _LEAST_PRIME
    tries = 1
    while _has_repeated(poly, prime):
        if tries == _TRIES and len(common_of(poly, _derived(poly))) > 1:
            return None
        tries = tries + 1
        prime = prime + 2
        while not is_prime(prime):
            prime = prime + 2
    return prime


def _has_repeated(poly, prime):
    return len(_common_residues(_residues(poly, prime), _residues(_derived(poly), prime), prime)) > 1


# Below, all is modulo a prime number, and what is divided by is monic.


def _residues(poly, prime):
    return trimmed([entry % prime for entry in poly])


def _rest_of(one, other, prime):
    rest = list(one)
    size = len(other) - 1
    while len(rest) > size:
        factor = rest.pop()
        if factor:
            low = len(rest) - size
            rest[low:] = [(entry - factor * less) % prime for entry, less in zip(rest[low:], other)]
    return trimmed(rest)


def _product_rest(one, other, poly, prime):
    return _rest_of([entry % prime for entry in product_of(one, other)], poly, prime)


def _monic(poly, prime):
    if poly[-1] == 1:
        return poly
    inverse = inverse_modulo(prime, poly[-1])
    return [entry * inverse % prime for entry in poly]


def _common_residues(one, other, prime):
    """The monic common divisor of the greatest degree of a monic polynomial and another one."""
    high, low = one, other
    while low:
        if len(low) == 1:
            return [1]
        low = _monic(low, prime)
        high, low = low, _rest_of(high, low, prime)
    return high


def _kept_rows(poly, prime):
    """Free polynomials that stay, modulo `poly`, if they are raised to the prime number; 1 is left out of them."""
    size = len(poly) - 1
    power = [1] + [0] * (size - 1)
    rest = []
    for place in range(1, size):
        for _ in range(prime):
            top = power[-1]
            power = [0] + power[:-1]
            if top:
                power = [(entry - top * less) % prime for entry, less in zip(power, poly)]
        # Behind each change stands of what it is the change.
        change = power + [0] * size
        change[place] -= 1
        change[size + place] = 1
        rest.append(change)
    for column in range(size):
        met = [row for row in rest if row[column]]
        if met:
            lead = _monic_at(met[0], column, prime)
            rest = [row for row in rest if not row[column]] + [_cleared(row, lead, column, prime) for row in met[1:]]
    return [row[size:] for row in rest]


def _monic_at(row, column, prime):
    inverse = inverse_modulo(prime, row[column])
    return [entry * inverse % prime for entry in row]


def _cleared(row, lead, column, prime):
    times = row[column]
    return [(entry - times * other) % prime for entry, other in zip(row, lead)]


def _split(poly, prime):
    """The irreducible factors, modulo a prime number, of a monic polynomial without repeated ones."""
    rows = _kept_rows(poly, prime)
    parts = [poly]
    for row in rows:
        if len(parts) <= len(rows):
            parts = [piece for part in parts for piece in _pieces(part, trimmed(row), prime)]
    return parts


def _pieces(part, row, prime):
    """The factors of a polynomial, modulo each of which a row leaves another constant."""
    rest = _rest_of(row, part, prime)
    if len(rest) < 2:
        return [part]
    found = []
    left = len(part) - 1
    for constant in range(prime):
        if left:
            piece = _common_residues(part, [(rest[0] - constant) % prime] + rest[1:], prime)
            if len(piece) > 1:
                found.append(piece)
                left = left - len(piece) + 1
    return found


def _inverses_of(parts, prime):
    """For each part the inverse, modulo it, of the product of all others."""
    found = []
    for index, part in enumerate(parts):
        others = [1]
        for other in parts[:index] + parts[index + 1:]:
            others = _product_rest(others, other, part, prime)
        found.append(_inverse_residues(others, part, prime))
    return found


def _inverse_residues(one, poly, prime):
    """The polynomial whose product with `one` leaves 1 modulo `poly`."""
    high, low = poly, one
    before, now = [], [1]
    while len(low) > 1:
        inverse = inverse_modulo(prime, low[-1])
        low = [entry * inverse % prime for entry in low]
        now = [entry * inverse % prime for entry in now]
        times, rest = _divided(high, low, prime)
        high, low = low, rest
        before, now = now, _minus(before, product_of(times, now), prime)
    inverse = inverse_modulo(prime, low[0])
    return [entry * inverse % prime for entry in now]


def _divided(one, other, prime):
    """The quotient and the rest."""
    rest = list(one)
    size = len(other) - 1
    entries = []
    while len(rest) > size:
        factor = rest.pop()
        low = len(rest) - size
        rest[low:] = [(entry - factor * less) % prime for entry, less in zip(rest[low:], other)]
        entries.append(factor)
    return entries[::-1], trimmed(rest)


def _minus(one, other, prime):
    size = max(len(one), len(other))
    return trimmed([(low - away) % prime for low, away in zip(_padded(one, size), _padded(other, size))])


def _padded(poly, size):
    return list(poly) + [0] * (size - len(poly))


# From here on the factors of a polynomial with integers are told modulo a power of the prime number.


def _lifted(poly, parts, prime):
    """The monic factors modulo a power of a prime number, and this power, which tells all factors of half the degree.
    """
    half = (len(poly) - 1) // 2
    # No integer of a monic factor of this degree is further from 0, by the bound of Mignotte.
    bound = comb(half, half // 2) * (isqrt(sum([entry * entry for entry in poly])) + 1)
    inverses = _inverses_of(parts, prime)
    lifted = parts
    modulus = prime
    while modulus <= 2 * bound:
        product = _product_of_all(lifted)
        missing = [(entry - other) // modulus % prime for entry, other in zip(poly, product)]
        further = [_product_rest(missing, inverse, part, prime) for inverse, part in zip(inverses, parts)]
        lifted = [_added(part, more, modulus) for part, more in zip(lifted, further)]
        modulus = modulus * prime
    return lifted, modulus


def _product_of_all(parts):
    product = (1,)
    for part in parts:
        product = product_of(product, part)
    return product


def _added(poly, more, times):
    return [entry + times * other for entry, other in zip(poly, _padded(more, len(poly)))]


def _balanced(poly, modulus):
    """The polynomial with the same residues, each integer as near to 0 as can be."""
    half = modulus // 2
    return tuple([(entry + half) % modulus - half for entry in poly])


def _joined(poly, parts, modulus):
    """The irreducible factors of a polynomial, by products of its factors modulo an integer."""
    rest = poly
    found = []
    size = 1
    while 2 * size <= len(parts):
        factor = _first_factor(rest, parts, modulus, size)
        if factor is None:
            size = size + 1
        else:
            chosen, trial = factor
            found.append(trial)
            rest = quotient_of(rest, trial)
            parts = [part for k, part in enumerate(parts) if k not in chosen]
    if len(rest) > 1:
        found.append(rest)
    return found


def _first_factor(poly, parts, modulus, size):
    """The numbers of so many parts whose product tells a factor of a polynomial, and this factor, or None."""
    for chosen in _choices(len(parts), size):
        some = [part for k, part in enumerate(parts) if k in chosen]
        degree = sum([len(part) - 1 for part in some])
        is_low = 2 * degree < len(poly)
        if not is_low:
            # The factor of the other parts is the one whose integers the modulus surely tells.
            some = [part for k, part in enumerate(parts) if k not in chosen]
        trial = _balanced(_product_of_all(some), modulus)
        other = quotient_of(poly, trial)
        if other is not None:
            return chosen, trial if is_low else other
    return None


def _choices(many, size):
    """All ascending lists of so many numbers below `many`."""
    found = [[]]
    for _ in range(size):
        found = [chosen + [k] for chosen in found for k in range(chosen[-1] + 1 if chosen else 0, many)]
    return found
