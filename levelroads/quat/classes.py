"""What lots are made of, told by their least rows alone: lots within them, lattices between them, and their classes.

Everywhere here `rows` are the least rows of a lot, and `facts` those of the order of its prime.
"""

from math import gcd, isqrt

from levelroads.quat.lattices import all_of_norm, combined, count_of_norm, dot, is_within, short_rows, triangle_of
from levelroads.rim.groups import genus

WHOLE = ((1, 0, 0, 0), (0, 1, 0, 0), (0, 0, 1, 0), (0, 0, 0, 1))


def size_of(rows):
    """The norm of a lot: the square of it is the product of the diagonals."""
    product = 1
    for place, row in enumerate(rows):
        product = product * row[place]
    return isqrt(product)


def products_before(facts, y):
    """The products of the basis of an order and an element."""
    _, products, _ = facts
    return [combined(y, row) for row in products]


def products_behind(facts, x):
    """The products of an element and the basis of an order."""
    _, products, _ = facts
    return [combined(x, column) for column in zip(*products)]


def turned_back(facts, x):
    """The conjugate of an element."""
    one, _, _ = facts
    return [x[0] * entry - less for entry, less in zip(one, x)]


def twice_norm(facts, x):
    """Twice the norm of an element."""
    _, _, pairings = facts
    return dot(x, combined(x, pairings))


def are_rows(facts, told):
    """Whether four elements are the least rows of a lot."""
    for place, row in enumerate(told):
        if any(row[:place]) or row[place] < 1 or not all([0 <= above[place] < row[place] for above in told[:place]]):
            return False
    for row in told:
        if not all([is_within(told, led) for led in products_before(facts, row)]):
            return False
    return True


def _pairings_of(facts, rows, size):
    """The pairings of four elements, divided by a norm."""
    _, _, pairings = facts
    led = [combined(row, pairings) for row in rows]
    return [[(a * x + b * y + c * z + d * w) // size for x, y, z, w in led] for a, b, c, d in rows]


def lattice_rows(facts, one, other):
    """The least rows of the lattice between two lots."""
    size = size_of(one)
    if size == 1:
        return other
    rows = [[size * entry for entry in row] for row in other]
    for x in _tellers(facts, one, size):
        led = products_behind(facts, turned_back(facts, x))
        rows = rows + [combined(y, led) for y in other]
    return triangle_of(rows, 4)


def _tellers(facts, rows, size):
    """Elements of a lot of which all others are told by products with the order, and by multiples of the norm."""
    # An element does so alone if its norm, divided by that of the lot, has no common divisor with this one. If the norm
    # is a power of one prime, one of these does: else the prime would divide all norms so divided.
    sums = [[entry + other for entry, other in zip(row, below)]
            for place, row in enumerate(rows) for below in rows[place + 1:]]
    for x in list(rows) + sums:
        if gcd(twice_norm(facts, x) // (2 * size), size) == 1:
            return (x,)
    return rows


def short_between(facts, one, other):
    """Short rows of the lattice between two lots, and their pairings divided by the norms of both lots."""
    rows = lattice_rows(facts, one, other)
    return short_rows(rows, _pairings_of(facts, rows, size_of(one) * size_of(other)))


def papers_of(facts, one, other):
    """The list of all papers of two lots."""
    rows, pairings = short_between(facts, one, other)
    return [tuple(combined(many, rows)) for many in all_of_norm(pairings, 1)]


def rows_within(facts, rows, prime, most):
    """The ascending list of the rows of all lots, as many as told, within a lot whose norm is a prime times its own."""
    multiples = [[prime * entry for entry in row] for row in rows]
    found = {}
    # Each of these lots is told by any of its elements that is no multiple of the prime, and has such with 0 as the
    # multiple of the first row; these are just the ones whose norm has the prime once more.
    for many in _points(_pairings_of(facts, rows, size_of(rows)), prime):
        if len(found) < most:
            found[triangle_of(multiples + products_before(facts, combined(many, rows)), 4)] = True
    return sorted(found)


def _points(pairings, prime):
    """One of each line of multiples, modulo a prime, of those that begin with 0 and have a norm that it divides."""
    _, (_, a, b, c), (_, _, d, e), (_, _, _, f) = pairings
    first, second, third = a // 2, d // 2, f // 2
    points = [(0, 1, y, z) for y in range(prime) for z in range(prime)
              if (first + y * (b + second * y) + z * (c + e * y + third * z)) % prime == 0]
    points = points + [(0, 0, 1, z) for z in range(prime) if (second + z * (e + third * z)) % prime == 0]
    return points + [(0, 0, 0, 1)] if third % prime == 0 else points


# The least lots of a lot are those behind the conjugates of its elements x of the least norm, divided by the norm of
# the lot. Alike lots have the same ones, and are alike to them; each one comes from as many x as the lot has units. So
# the shape of a lot tells its class: it is the first one of its least lots, the number of its units, and the pairings
# of short rows of the lot, divided by its norm.


def shape_of(facts, rows):
    """The shape of a lot."""
    size = size_of(rows)
    short, pairings = short_rows(rows, _pairings_of(facts, rows, size))
    norm = 1
    while not count_of_norm(pairings, norm):
        norm = norm + 1
    multiples = all_of_norm(pairings, norm)
    if norm == 1:
        return WHOLE, len(multiples), pairings
    found = {}
    # An element and its opposite one tell the same lot.
    for many in multiples[:len(multiples) // 2]:
        led = products_before(facts, turned_back(facts, combined(many, short)))
        least = [[entry // size for entry in combined(row, led)] for row in short]
        found[triangle_of(least, 4)] = True
    return min(found), len(multiples) // len(found), pairings


def pairings_between(facts, one, other):
    """The pairings of short rows of the lattice between two lots with these shapes, divided by both norms."""
    if one[0] == WHOLE:
        return other[2]
    if other[0] == WHOLE:
        # The elements between two lots are those between the other one and the first one, conjugated.
        return one[2]
    return short_between(facts, one[0], other[0])[1]


def rows_of_classes(facts, prime):
    """The list of the rows of one lot of each class of a prime."""
    most = genus(prime) + 1
    found = [WHOLE]
    known = {WHOLE: True}
    at = 0
    while len(found) < most:
        # The lots of the prime 2 are one class alone: there no neighbours are asked.
        near = rows_within(facts, found[at], 2, 3)
        for rows in near:
            if len(found) < most:
                least = shape_of(facts, rows)[0]
                if least not in known:
                    known[least] = True
                    found.append(rows)
        at = at + 1
    return found


def shapes_of_full(facts, prime, told):
    """The shapes of the lots of a full list of a prime, or None if some lots are none."""
    if len(told) != genus(prime) + 1:
        return None
    shapes = [shape_of(facts, rows) for rows in told]
    return shapes if len({shape[0] for shape in shapes}) == len(shapes) else None
