"""The bases of the orders of quaternions, and how they are multiplied: integers alone.

The trace of the first quaternion of each basis is 1, that of the three others is 0. So the trace of an element is its
first integer.
"""

from levelroads.base.numbers import is_prime, roots_modulo


def modulus_of(prime):
    """The least prime that leaves 3 modulo 4 and modulo which a prime that leaves 1 modulo 8 is no square."""
    modulus = 3
    while not is_prime(modulus) or roots_modulo(modulus, 0, -prime):
        modulus = modulus + 4
    return modulus


def root_of(prime, modulus):
    """The least c of at least 0 for which the modulus divides c * c * p + 1, p being the prime."""
    root = 0
    while (root * root * prime + 1) % modulus:
        root = root + 1
    return root


def told_basis(prime):
    """The squares of i and j, the quaternions of the basis multiplied by an integer, this integer, and 1, i, j and k.

    These four are told by their multiples of the basis, which are integers.
    """
    if prime == 2:
        tops = ((1, 1, 1, 1), (0, 2, 0, 0), (0, 0, 2, 0), (0, 0, 0, 2))
        return (-1, -1), tops, 2, ((2, -1, -1, -1), (0, 1, 0, 0), (0, 0, 1, 0), (0, 0, 0, 1))
    if prime % 4 == 3:
        tops = ((1, 0, 1, 0), (0, 1, 0, 1), (0, 0, 2, 0), (0, 0, 0, 2))
        return (-1, -prime), tops, 2, ((2, 0, -1, 0), (0, 2, 0, -1), (0, 0, 1, 0), (0, 0, 0, 1))
    if prime % 8 == 5:
        tops = ((2, 0, 2, 2), (0, 1, 2, 1), (0, 0, 4, 0), (0, 0, 0, 4))
        return (-2, -prime), tops, 4, ((2, 0, -1, -1), (0, 4, -2, -1), (0, 0, 1, 0), (0, 0, 0, 1))
    q = modulus_of(prime)
    c = root_of(prime, q)
    tops = ((q, 0, q, 0), (0, q, 0, q), (0, 0, 2, 2 * c), (0, 0, 0, 2 * q))
    return (-prime, -q), tops, 2 * q, ((2, 0, -q, c), (0, 2, 0, -1), (0, 0, q, -c), (0, 0, 0, 1))


# The facts of an order are a tuple of the element that stands for 1, of the products of the basis, at r and s that of
# its quaternions r and s, and of the pairings of the basis. The products below are worked out by the rules once and for
# all, with letters for what primes of one kind have unlike: lots ask for them far too often to do so each time.


def order_facts(prime):
    """The facts of the order of a prime."""
    if prime == 2:
        return _facts_with((2, -1, -1, -1), _two_products())
    if prime % 4 == 3:
        return _facts_with((2, 0, -1, 0), _three_products((prime + 1) // 4))
    if prime % 8 == 5:
        return _facts_with((2, 0, -1, -1), _five_products((prime + 3) // 8))
    q = modulus_of(prime)
    c = root_of(prime, q)
    return _facts_with((2, 0, -q, c), _one_products(prime, q, c))


def _facts_with(one, products):
    # A pairing is the product of both traces less the trace of the product.
    pairings = [tuple([-product[0] for product in row]) for row in products]
    pairings[0] = (pairings[0][0] + 1,) + pairings[0][1:]
    return one, products, tuple(pairings)


def _two_products():
    return (((-1, 1, 1, 1), (-1, 1, 1, 0), (-1, 0, 1, 1), (-1, 1, 0, 1)),
            ((-1, 1, 0, 1), (-2, 1, 1, 1), (0, 0, 0, 1), (0, 0, -1, 0)),
            ((-1, 1, 1, 0), (0, 0, 0, -1), (-2, 1, 1, 1), (0, 1, 0, 0)),
            ((-1, 0, 1, 1), (0, 0, 1, 0), (0, -1, 0, 0), (-2, 1, 1, 1)))


def _three_products(n):
    """For a prime that leaves 3 modulo 4, and 4 n is 1 more than it."""
    m = 2 * n
    k = 2 * m
    return (((1 - m, 0, n, 0), (0, m, 0, -n), (1 - k, 0, m, 0), (0, k - 1, 0, 1 - m)),
            ((0, 1 - m, 0, n), (-m, 0, n, 0), (0, 1 - k, 0, m), (1 - k, 0, m - 1, 0)),
            ((1 - k, 0, m, 0), (0, k - 1, 0, -m), (2 - 2 * k, 0, k - 1, 0), (0, 2 * k - 2, 0, 1 - k)),
            ((0, 1 - k, 0, m), (1 - k, 0, m, 0), (0, 2 - 2 * k, 0, k - 1), (2 - 2 * k, 0, k - 1, 0)))


def _five_products(n):
    """For a prime p that leaves 5 modulo 8, and 8 n is 3 more than it."""
    p = 8 * n - 3
    k = 2 * p
    m = 3 * n - 1
    return (((5 - 12 * n, 0, 2 * m, 2 * m), (-p, 2 - 4 * n, 2 * m, 5 * n - 2),
             (-p, -k, 4 * m, p), (-k, k, 0, 4 * n - 1)),
            ((-p, 4 * n - 1, 2 * n - 1, m), (-2 * m, 0, m, m), (-p, -p, p, 2 * m), (-p, k, 1 - 4 * n, 0)),
            ((-p, k, 2 - 4 * n, 0), (-p, p, 0, 2 * n - 1), (-k, 0, p, p), (0, 2 * k, -k, -p)),
            ((-k, -k, k, 4 * m), (-p, -k, 4 * m, p), (0, -2 * k, k, p), (-2 * k, 0, k, k)))


def _one_products(p, q, c):
    """For a prime p that leaves 1 modulo 8, and the integers q and c of its basis."""
    m = (q + 1) // 4
    n = 2 * m - 1
    s = (c * c * p + 1) // q
    e = c * p
    k = p * q
    return (((1 - 2 * m, 0, q * m, -c * m), (0, 2 * m, 0, -m), (-1, c, 2 * m, -c), (0, q, 0, -n)),
            ((0, -n, 0, m), (-2 * p * m, 0, k * m, -e * m), (-e, -1, e * n, 1 - s * n), (-k, 0, k * n, -e * n)),
            ((-1, -c, 2 * m, 0), (-e, 1, 2 * e * m, -2 * s * m),
             (-2 * s, 0, q * s, -c * s), (-2 * e, 2, e * q, -s * q)),
            ((0, -q, 0, 2 * m), (-k, 0, 2 * k * m, -2 * e * m),
             (-2 * e, -2, e * q, 2 - s * q), (-2 * k, 0, k * q, -c * k)))
