"""Lattices of rows of integers: least rows, short rows, and the sums of multiples of a norm.

An element of an order of quaternions is a row of four integers. Products are told by a table of rows, norms by a table
of pairings: twice the norm is the pairing of an element and itself.
"""

from math import isqrt, lcm


def combined(multiples, rows):
    """The sum of four rows, each one multiplied by an integer."""
    a, b, c, d = multiples
    first, second, third, fourth = rows
    return [a * x + b * y + c * z + d * w for x, y, z, w in zip(first, second, third, fourth)]


def dot(one, other):
    """The sum of the products of the integers of two rows, one by one."""
    return sum([entry * less for entry, less in zip(one, other)])


def triangle_of(rows, width):
    """The least rows of all sums of multiples of some rows of this width, or None if fewer would do."""
    leads = [None] * width
    for told in rows:
        row = told
        for column in range(width):
            if row[column]:
                lead = leads[column]
                if lead is None:
                    leads[column] = row
                    break
                while row[column]:
                    many = row[column] // lead[column]
                    row = [entry - many * less for entry, less in zip(row, lead)]
                    if row[column]:
                        lead, row = row, lead
                leads[column] = lead
    return None if None in leads else _least_above(leads)


def _least_above(rows):
    """Rows of a triangle, with integers above 0 on its diagonal and the least ones of at least 0 above it."""
    found = []
    for place in range(len(rows) - 1, -1, -1):
        row = rows[place]
        if row[place] < 0:
            row = [-entry for entry in row]
        for at, lower in enumerate(found):
            many = row[place + 1 + at] // lower[place + 1 + at]
            if many:
                row = [entry - many * less for entry, less in zip(row, lower)]
        found = [tuple(row)] + found
    return tuple(found)


def is_within(rows, row):
    """Whether a row is a sum of multiples of least rows."""
    rest = row
    for place, lead in enumerate(rows):
        many, left = divmod(rest[place], lead[place])
        if left:
            return False
        rest = [entry - many * less for entry, less in zip(rest, lead)]
    return True


# Least rows are long ones for what they tell. Short ones are made by taking from a row the multiple of another one that
# leaves it nearest to this one, as long as some row becomes shorter. What their pairings are goes along with them.


def short_rows(told, table):
    """Short rows with the same sums of multiples as four free rows, of which the table of the pairings is told, too."""
    rows = list(told)
    flat = [entry for row in table for entry in row]
    is_short = False
    while not is_short:
        is_short = True
        for at in range(4):
            for by in range(4):
                pairing, square = flat[4 * at + by], flat[5 * by]
                if at != by and not -square <= 2 * pairing <= square:
                    many = (2 * pairing + square) // (2 * square)
                    rows[at] = [entry - many * less for entry, less in zip(rows[at], rows[by])]
                    led = [entry - many * less for entry, less in zip(flat[4 * at:4 * at + 4], flat[4 * by:4 * by + 4])]
                    led[at] = led[at] - many * led[by]
                    for place, entry in enumerate(led):
                        flat[4 * at + place] = entry
                        flat[4 * place + at] = entry
                    is_short = False
    return rows, [flat[:4], flat[4:8], flat[8:12], flat[12:]]


# Twice the norm of an element x is the sum of weight * L * L / D over four sums L of multiples of the integers of x,
# of which each one leaves out one integer more: only a few integers make the last one small, to begin with.


def count_of_norm(pairings, number):
    """How many elements have a norm of at least 1, by the table of the pairings of a basis of four."""
    (a, b, c, d), (_, e, f, g), (_, _, h, i), (_, _, _, j) = pairings
    # The integers by which the sums without the first integer, and without the second one, are told.
    k, m, n = a * e - b * b, a * f - b * c, a * g - b * d
    p, q = (k * (a * h - c * c) - m * m) // a, (k * (a * i - c * d) - m * n) // a
    last = (p * ((k * (a * j - d * d) - n * n) // a) - q * q) // k
    found = 0
    for w in range(isqrt(2 * number * p // last) + 1):
        left = k * (2 * number * p - last * w * w)
        most = isqrt(left)
        met = 0
        for z in range(-((most + q * w) // p), (most - q * w) // p + 1):
            third = p * z + q * w
            rest = (left - third * third) // p
            shift = m * z + n * w
            root = isqrt(a * rest)
            for y in range(-((root + shift) // k), (root - shift) // k + 1):
                second = k * y + shift
                square = (a * rest - second * second) // k
                first = isqrt(square)
                if first * first == square:
                    other = b * y + c * z + d * w
                    if (first - other) % a == 0:
                        met = met + 1
                    if first and (first + other) % a == 0:
                        met = met + 1
        # With each element there is its opposite one.
        found = found + (2 * met if w else met)
    return found


def all_of_norm(pairings, number):
    """The ascending tuple of all elements of a norm, by the table of the pairings of a basis."""
    steps, total = _weighted_sums(pairings)
    layer = [((), 2 * number * total)]
    for row, weight in steps[:0:-1]:
        layer = [longer for tail, rest in layer for longer in _longer(row, weight, tail, rest)]
    row, weight = steps[0]
    return tuple(sorted([found for tail, rest in layer for found in _ended(row, weight, tail, rest)]))


def _weighted_sums(pairings):
    """The rows of the sums L with their weights, and D; all of them are integers."""
    rest = pairings
    last = 1
    rows = []
    while rest:
        lead = rest[0]
        rows.append((lead, last * lead[0]))
        rest = [[(lead[0] * entry - row[0] * other) // last for entry, other in zip(row[1:], lead[1:])]
                for row in rest[1:]]
        last = lead[0]
    total = 1
    for _, part in rows:
        total = lcm(total, part)
    return [(row, total // part) for row, part in rows], total


def _longer(row, weight, tail, rest):
    """All that come from the last integers of an element with one integer ahead of them, with what is left."""
    lead, shift = row[0], sum([many * entry for many, entry in zip(row[1:], tail)])
    most = isqrt(rest // weight)
    found = []
    for entry in range(-((most + shift) // lead), (most - shift) // lead + 1):
        value = lead * entry + shift
        found.append(((entry,) + tail, rest - weight * value * value))
    return found


def _ended(row, weight, tail, rest):
    """All elements that come from their last three integers, with nothing left."""
    lead, shift = row[0], sum([many * entry for many, entry in zip(row[1:], tail)])
    root = isqrt(rest // weight)
    if weight * root * root != rest:
        return []
    values = [root, -root] if root else [0]
    return [((value - shift) // lead,) + tail for value in values if (value - shift) % lead == 0]
