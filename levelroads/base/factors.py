"""Polynomials with integers without checks, and the irreducible ones that divide a monic one.

A polynomial is a tuple of integers, that of the power 0 first, the last one not 0. Modulo a prime number
its integers are residues.
"""

from math import gcd

from levelroads.base.numbers import inverse_modulo, is_prime

# With lesser prime numbers more steps of lifting are needed, with greater ones more tries of splitting.
_LEAST_PRIME = 11


def trimmed(entries):
    """The polynomial with some integers, perhaps with zeros at their end."""
    size = len(entries)
    while size and entries[size - 1] == 0:
        size = size - 1
    return tuple(entries[:size])


def product_of(one, other):
    """The product of two polynomials."""
    if not one or not other:
        return ()
    entries = [0] * (len(one) + len(other) - 1)
    for low, factor in enumerate(one):
        for at, entry in enumerate(other):
            entries[low + at] += factor * entry
    return tuple(entries)


def quotient_of(one, other):
    """The polynomial whose product with the second one is the first one, or None."""
    rest = list(one)
    entries = []
    for low in range(len(one) - len(other), -1, -1):
        factor, left = divmod(rest[low + len(other) - 1], other[-1])
        if left:
            return None
        for at, entry in enumerate(other):
            rest[low + at] -= factor * entry
        entries.append(factor)
    return None if any(rest) else tuple(entries[::-1])


def common_of(one, other):
    """The common divisor of the greatest degree, of integers without a common divisor."""
    high, low = _primitive(one), _primitive(other)
    while low:
        high, low = low, _primitive(_pseudo_rest(high, low))
    return high


def _primitive(poly):
    shared = 0
    for entry in poly:
        shared = gcd(shared, entry)
    if poly and poly[-1] < 0:
        shared = -shared
    return tuple([entry // shared for entry in poly])


def _pseudo_rest(one, other):
    """What is left of some multiple of a polynomial behind division by another one."""
    rest = one
    while len(rest) >= len(other):
        shared = gcd(rest[-1], other[-1])
        up, down = other[-1] // shared, rest[-1] // shared
        entries = [up * entry for entry in rest]
        low = len(rest) - len(other)
        for at, entry in enumerate(other):
            entries[low + at] -= down * entry
        rest = trimmed(entries)
    return rest


def _derived(poly):
    return tuple([power * entry for power, entry in enumerate(poly)][1:])


def _residues(poly, prime):
    return trimmed([entry % prime for entry in poly])


def _divided(one, other, prime):
    """The quotient and the rest modulo a prime number."""
    rest = list(one)
    entries = []
    inverse = inverse_modulo(prime, other[-1])
    for low in range(len(one) - len(other), -1, -1):
        factor = rest[low + len(other) - 1] * inverse % prime
        for at, entry in enumerate(other):
            rest[low + at] = (rest[low + at] - factor * entry) % prime
        entries.append(factor)
    return trimmed(entries[::-1]), trimmed(rest)


def _rest_of(one, other, prime):
    return _divided(one, other, prime)[1]


def _common_residues(one, other, prime):
    """The monic common divisor of the greatest degree modulo a prime number."""
    high, low = one, other
    while low:
        high, low = low, _rest_of(high, low, prime)
    inverse = inverse_modulo(prime, high[-1])
    return tuple([entry * inverse % prime for entry in high])


def _product_rest(one, other, poly, prime):
    return _rest_of(_residues(product_of(one, other), prime), poly, prime)


def _inverse_residues(one, poly, prime):
    """The polynomial whose product with `one` leaves 1 modulo `poly` and a prime number."""
    high, low = poly, _rest_of(one, poly, prime)
    before, now = (), (1,)
    while low:
        times, rest = _divided(high, low, prime)
        high, low = low, rest
        before, now = now, _minus(before, product_of(times, now), prime)
    inverse = inverse_modulo(prime, high[-1])
    return _residues([entry * inverse for entry in before], prime)


def _minus(one, other, prime):
    size = max(len(one), len(other))
    return trimmed([(low - away) % prime for low, away in zip(_padded(one, size), _padded(other, size))])


def _padded(poly, size):
    return list(poly) + [0] * (size - len(poly))


def _prime_power(poly, prime):
    """X to the power of a prime number, modulo this and a polynomial."""
    power = (1,)
    square = _rest_of((0, 1), poly, prime)
    rest = prime
    while rest:
        if rest % 2:
            power = _product_rest(power, square, poly, prime)
        square = _product_rest(square, square, poly, prime)
        rest = rest // 2
    return power


def _kept_rows(poly, prime):
    """Free rows of the polynomials that stay, modulo `poly`, if they are raised to a prime number."""
    size = len(poly) - 1
    step = _prime_power(poly, prime)
    power = (1,)
    rest = []
    for place in range(size):
        change = _padded(power, size)
        change[place] -= 1
        # Behind each change stands of what it is the change.
        rest.append(change + [1 if at == place else 0 for at in range(size)])
        power = _product_rest(power, step, poly, prime)
    for column in range(size):
        met = [row for row in rest if row[column] % prime]
        rest = [row for row in rest if row[column] % prime == 0]
        rest = rest + [_cleared(row, met[0], column, prime) for row in met[1:]]
    return [row[size:] for row in rest]


def _cleared(row, lead, column, prime):
    times = row[column] * inverse_modulo(prime, lead[column])
    return [(entry - times * other) % prime for entry, other in zip(row, lead)]


def _split(poly, prime):
    """The irreducible factors, modulo a prime number, of a monic polynomial without repeated ones."""
    rows = _kept_rows(poly, prime)
    parts = [poly]
    for row in rows:
        if len(parts) < len(rows):
            parts = [piece for part in parts for piece in _pieces(part, row, prime)]
    return parts


def _pieces(part, row, prime):
    """The factors of a polynomial, modulo each of which a row leaves another constant."""
    found = []
    for constant in range(prime):
        less = _residues([row[0] - constant] + row[1:], prime)
        piece = _common_residues(part, less, prime)
        if len(piece) > 1:
            found.append(piece)
    return found


def _good_prime(poly):
    """A prime number modulo which a monic polynomial has no repeated factors."""
    prime = _LEAST_PRIME
    while not is_prime(prime) or _has_repeated(poly, prime):
        prime = prime + 1
    return prime


def _has_repeated(poly, prime):
    return len(_common_residues(_residues(poly, prime), _residues(_derived(poly), prime), prime)) > 1


def _product_of_all(parts):
    product = (1,)
    for part in parts:
        product = product_of(product, part)
    return product


def _inverses_of(parts, prime):
    """For each part the inverse, modulo it, of the product of all others."""
    found = []
    for index, part in enumerate(parts):
        others = _residues(_product_of_all(parts[:index] + parts[index + 1:]), prime)
        found.append(_inverse_residues(others, part, prime))
    return found


def _lifted(poly, parts, prime, bound):
    """The monic factors modulo the first power of a prime number above a bound, and this power."""
    inverses = _inverses_of(parts, prime)
    lifted = parts
    modulus = prime
    while modulus <= bound:
        product = _product_of_all(lifted)
        missing = _residues([(entry - other) // modulus for entry, other in zip(poly, product)], prime)
        further = [_product_rest(missing, inverse, part, prime) for inverse, part in zip(inverses, parts)]
        lifted = [_added(part, more, modulus) for part, more in zip(lifted, further)]
        modulus = modulus * prime
    return lifted, modulus


def _added(poly, more, times):
    return tuple([entry + times * other for entry, other in zip(poly, _padded(more, len(poly)))])


def _balanced(poly, modulus):
    """The polynomial with the same residues, each integer as near to 0 as can be."""
    half = modulus // 2
    return tuple([(entry + half) % modulus - half for entry in poly])


def _choices(many, size):
    """All ascending lists of so many numbers below `many`."""
    found = [[]]
    for _ in range(size):
        found = [chosen + [k] for chosen in found for k in range(chosen[-1] + 1 if chosen else 0, many)]
    return found


def _first_factor(poly, parts, modulus, size):
    """The numbers of so many parts whose product divides a polynomial, and their product, or None."""
    for chosen in _choices(len(parts), size):
        trial = _balanced(_product_of_all([parts[k] for k in chosen]), modulus)
        if quotient_of(poly, trial) is not None:
            return chosen, trial
    return None


def irreducible_factors(poly):
    """The irreducible factors of a monic polynomial of a degree of at least 1 without repeated ones."""
    prime = _good_prime(poly)
    # No integer of a monic factor is further from 0 than a quarter of this, by the bound of Mignotte.
    bound = (2 << len(poly)) * sum([abs(entry) for entry in poly])
    parts, modulus = _lifted(poly, _split(_residues(poly, prime), prime), prime, bound)
    rest = poly
    found = []
    size = 1
    while 2 * size <= len(parts):
        factor = _first_factor(rest, parts, modulus, size)
        if factor is None:
            size = size + 1
        else:
            chosen, trial = factor
            found.append(trial)
            rest = quotient_of(rest, trial)
            parts = [part for k, part in enumerate(parts) if k not in chosen]
    if len(rest) > 1:
        found.append(rest)
    return found


def without_repeated(poly):
    """The product of the irreducible factors of a monic polynomial, each taken once."""
    return quotient_of(poly, common_of(poly, _derived(poly)))
