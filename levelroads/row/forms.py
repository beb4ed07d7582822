"""Rows of a level: what the doings have, one behind the other, at each place of their tables."""

from levelroads.base.mixes import is_mix, lead_places
from levelroads.base.numbers import check_bounded, is_prime
from levelroads.base.ratios import Ratio
from levelroads.base.tables import echelon_of_whole, free_multiples, mixed_row
from levelroads.doing.doings import doing_images, whole_table
from levelroads.errors import InvalidOperation, InvalidRow, Refused
from levelroads.pair.pairs import count_pairs
from levelroads.symbol.symbols import check_space

MAX_TERMS = 60


def form_bound(level):
    """The number of entries by which rows of a level are told apart."""
    return count_pairs(level) // 6


def _is_begun(value):
    """Whether a value is a tuple of ratios, as many as rows that are passed have."""
    if not isinstance(value, tuple) or len(value) > MAX_TERMS:
        return False
    return all([isinstance(entry, Ratio) for entry in value])


def _told_rows(space, size):
    """The echelon of the entries from 1 to a size of all rows of the level of a space."""
    _, told = space.staying_half()
    _, rows, bottom = told
    tables = {}
    for prime in range(2, size + 1):
        if is_prime(prime):
            tables[prime] = whole_table(told, doing_images(space, prime, rows))
    found = []
    for place in range(len(rows)):
        # Often the entries at the places of some first rows of the tables tell all rows of the level.
        if len(found) < min(len(rows), size):
            first = [1 if at == place else 0 for at in range(len(rows))]
            found = free_multiples(found + _entries_with(first, space.level, tables, bottom, size))
    return echelon_of_whole(found)


def _entries_with(first, level, tables, bottom, size):
    """The entries at all places of one row of the tables of T_1, T_2 and so on, all multiplied by one integer.

    The row of T_1 is told, and the tables of prime numbers, which are integers that are divided by another one.
    """
    power = 2
    while power <= size:
        # No number has more prime factors than such a power: so nothing is left by the divisions below.
        first = [bottom * entry for entry in first]
        power = 2 * power
    rows = [first]
    for number in range(2, size + 1):
        prime = _least_prime(number)
        rest = number // prime
        row = [entry // bottom for entry in mixed_row(rows[rest - 1], tables[prime], len(first))]
        if rest % prime == 0 and level % prime:
            row = [entry - prime * less for entry, less in zip(row, rows[rest // prime - 1])]
        rows.append(row)
    return list(zip(*rows))


def _least_prime(number):
    prime = 2
    while number % prime:
        prime = prime + 1
    return prime


def form_rows(space, size):
    """The echelon of the entries from 1 to a size of all rows of the level of a space."""
    check_space(space)
    check_bounded(size, 1, MAX_TERMS)
    return _told_rows(space, size)


def is_form_row(space, value):
    """Whether a value is a tuple of the first entries of some row of the level of a space."""
    check_space(space)
    return _is_begun(value) and len(value) > 0 and is_mix(_told_rows(space, len(value)), value)


def row_with(space, begun, size):
    """The first entries, so many, of the row whose first entries, as many as the bound, are told."""
    check_space(space)
    bound = form_bound(space.level)
    if not _is_begun(begun) or len(begun) != bound:
        raise InvalidRow("the row is begun by as many ratios as the bound of the level")
    check_bounded(size, 1, MAX_TERMS)
    row = _row_from(_told_rows(space, max(size, bound)), begun, max(size, bound))
    for place, entry in enumerate(begun):
        if row[place] != entry:
            raise Refused(("none", place + 1))
    return row[:size]


def _row_from(rows, begun, size):
    """The mix of the rows of an echelon that has, at the places of their first ones, what is begun."""
    mixed = [Ratio(0)] * size
    for lead, row in zip(lead_places(rows), rows):
        mixed = [entry.plus(part.times(begun[lead])) for entry, part in zip(mixed, row)]
    return tuple(mixed)


def first_difference(one, other):
    """The least n from 1 on at which two tuples of ratios differ, or None."""
    for told in (one, other):
        if not _is_begun(told) or not told:
            raise InvalidRow("a row is a tuple of 1 to 60 ratios")
    if len(one) != len(other):
        raise InvalidOperation("both rows have equally many entries")
    for place, entry in enumerate(one):
        if entry != other[place]:
            return place + 1
    return None
