"""Lattices of rows of integers: least rows, short rows, and the sums of multiples of a norm.

An element of an order of quaternions is a row of four integers. Products are told by a table of rows, norms by a table
of pairings: twice the norm is the pairing of an element and itself.
"""

from math import isqrt, lcm


def combined(multiples, rows):
    """The sum of four rows, each one multiplied by an integer."""
    a, b, c, d = multiples
    first, second, third, fourth = rows
    return [a * x + b * y + c * z + d * w for x, y, z, w in zip(first, second, third, fourth)]


def dot(one, other):
    """The sum of the products of the integers of two rows, one by one."""
    return sum([entry * less for entry, less in zip(one, other)])


def triangle_of(rows, width):
    """The least rows of all sums of multiples of some rows of this width, or None if fewer would do."""
    rest = [row for row in rows if any(row)]
    found = []
    for column in range(width):
        met = [row for row in rest if row[column]]
        rest = [row for row in rest if not row[column]]
        while len(met) > 1:
            cleared = _cleared_once(met, column)
            rest = rest + [row for row in cleared if not row[column] and any(row)]
            met = [row for row in cleared if row[column]]
        if not met:
            return None
        found.append(met[0] if met[0][column] > 0 else [-entry for entry in met[0]])
    return _least_above(found)


def _cleared_once(rows, column):
    """The row with the least integer in a column, and all other ones, less such multiples of it that others are left.
    """
    sizes = [abs(row[column]) for row in rows]
    place = sizes.index(min(sizes))
    lead = rows[place]
    cleared = [lead]
    for row in rows[:place] + rows[place + 1:]:
        many = row[column] // lead[column]
        cleared.append([entry - many * less for entry, less in zip(row, lead)])
    return cleared


def _least_above(rows):
    """Rows of a triangle, with the least integers of at least 0 above its diagonal."""
    found = []
    for place in range(len(rows) - 1, -1, -1):
        row = rows[place]
        for at, lower in enumerate(found):
            many = row[place + 1 + at] // lower[place + 1 + at]
            if many:
                row = [entry - many * less for entry, less in zip(row, lower)]
        found = [tuple(row)] + found
    return tuple(found)


def is_within(rows, row):
    """Whether a row is a sum of multiples of least rows."""
    rest = row
    for place, lead in enumerate(rows):
        many, left = divmod(rest[place], lead[place])
        if left:
            return False
        rest = [entry - many * less for entry, less in zip(rest, lead)]
    return True


# Least rows are long ones for what they tell. Short ones are made by taking from each row the multiples of those ahead
# that leave it nearest to them, and by putting it ahead of all longer ones. Of a row that is done these are kept: the
# row, its pairings with the basis, its shares and its pairing with itself. The shares tell what it has of each row
# ahead and, as the last one, what it has of its own: all multiplied by what makes integers of them.


def short_rows(rows, pairings):
    """Short rows with the same sums of multiples as some free rows, and the table of their pairings."""
    done = []
    rest = list(rows)
    while rest:
        row, shares = _nearest(rest[0], done)
        led = combined(row, pairings)
        square = dot(row, led)
        place = len([one for one in done if one[3] <= square])
        rest = [one[0] for one in done[place:]] + rest[1:]
        done = done[:place]
        shares = shares[:place]
        done.append((row, led, shares + [_last_share(square, shares, shares, done)], square))
    return [one[0] for one in done], [[dot(one[0], other[1]) for other in done] for one in done]


def _nearest(row, done):
    """A row without what it has of the rows done, as far as multiples by integers can tell, and its shares."""
    shares = []
    for _, led, parts, _ in done:
        shares.append(_last_share(dot(row, led), shares, parts, done))
    for place in range(len(done) - 1, -1, -1):
        other, _, parts, _ = done[place]
        many = (2 * shares[place] + parts[place]) // (2 * parts[place])
        if many:
            row = [entry - many * less for entry, less in zip(row, other)]
            shares = [share - many * part for share, part in zip(shares, parts)] + shares[place + 1:]
    return row, shares


def _last_share(pairing, shares, parts, done):
    """What two rows with this pairing have in common beyond what their shares tell."""
    last = 1
    for place, share in enumerate(shares):
        own = done[place][2][place]
        pairing = (own * pairing - share * parts[place]) // last
        last = own
    return pairing


# Twice the norm of an element x is the sum of weight * L * L / D over four sums L of multiples of the integers of x,
# of which each one leaves out one integer more: only a few integers make the last one small, to begin with.


def all_of_norm(pairings, number):
    """The ascending tuple of all elements of a norm, by the table of the pairings of a basis."""
    steps, total = _steps_of(pairings)
    layer = [((), 2 * number * total)]
    for row, weight in steps[:0:-1]:
        layer = [longer for tail, rest in layer for longer in _longer(row, weight, tail, rest)]
    row, weight = steps[0]
    return tuple(sorted([found for tail, rest in layer for found in _ended(row, weight, tail, rest)]))


def _steps_of(pairings):
    """The rows of the sums L with their weights, and D; all of them are integers."""
    rest = pairings
    last = 1
    rows = []
    while rest:
        lead = rest[0]
        rows.append((lead, last * lead[0]))
        rest = [[(lead[0] * entry - row[0] * other) // last for entry, other in zip(row[1:], lead[1:])]
                for row in rest[1:]]
        last = lead[0]
    total = 1
    for _, part in rows:
        total = lcm(total, part)
    return [(row, total // part) for row, part in rows], total


def _longer(row, weight, tail, rest):
    """All that come from the last integers of an element with one integer ahead of them, with what is left."""
    lead, shift = row[0], sum([many * entry for many, entry in zip(row[1:], tail)])
    most = isqrt(rest // weight)
    found = []
    for entry in range(-((most + shift) // lead), (most - shift) // lead + 1):
        value = lead * entry + shift
        found.append(((entry,) + tail, rest - weight * value * value))
    return found


def _ended(row, weight, tail, rest):
    """All elements that come from their last three integers, with nothing left."""
    lead, shift = row[0], sum([many * entry for many, entry in zip(row[1:], tail)])
    root = isqrt(rest // weight)
    if weight * root * root != rest:
        return []
    values = [root, -root] if root else [0]
    return [((value - shift) // lead,) + tail for value in values if (value - shift) % lead == 0]
