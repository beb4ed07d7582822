"""Rows of a level: what the doings have, one behind the other, at each place of their tables."""

from levelroads.base.mixes import is_mix, lead_places
from levelroads.base.numbers import check_bounded
from levelroads.base.ratios import Ratio
from levelroads.base.tables import echelon, table_product
from levelroads.doing.doings import doing_images, staying_rows, table_on
from levelroads.errors import InvalidOperation, InvalidRow, Refused
from levelroads.pair.pairs import count_pairs
from levelroads.symbol.symbols import check_space

MAX_TERMS = 60


def form_bound(level):
    """The number of entries by which rows of a level are told apart."""
    return count_pairs(level) // 6


def _is_begun(value):
    """Whether a value is a tuple of ratios, as many as rows that are passed have."""
    if not isinstance(value, tuple) or len(value) > MAX_TERMS:
        return False
    return all([isinstance(entry, Ratio) for entry in value])


def _tables(space, size):
    """The tables by which T_1, T_2 and so on lead the staying half of a space."""
    rows = staying_rows(space)
    unit = tuple([tuple([Ratio(1 if at == place else 0) for at in range(len(rows))]) for place in range(len(rows))])
    tables = [unit]
    for number in range(2, size + 1):
        prime = _least_prime(number)
        if prime == number:
            tables.append(table_on(rows, doing_images(space, number, rows)))
        else:
            rest = number // prime
            product = table_product(tables[prime - 1], tables[rest - 1])
            if rest % prime == 0 and space.level % prime:
                product = _less(product, prime, tables[rest // prime - 1])
            tables.append(product)
    return tables


def _least_prime(number):
    prime = 2
    while number % prime:
        prime = prime + 1
    return prime


def _less(table, times, other):
    """A table less another one, which is multiplied by an integer."""
    return tuple([tuple([one.minus(two.times(times)) for one, two in zip(row, less)])
                  for row, less in zip(table, other)])


def _told_rows(space, size):
    """The echelon of the entries from 1 to a size of all rows of the level of a space."""
    tables = _tables(space, size)
    many = len(tables[0])
    found = ()
    for row in range(many):
        # Often the entries at the places of one row of the tables tell all rows of the level.
        if len(found) < many:
            told = tuple([tuple([table[row][column] for table in tables]) for column in range(many)])
            found = echelon(found + told)
    return found


def form_rows(space, size):
    """The echelon of the entries from 1 to a size of all rows of the level of a space."""
    check_space(space)
    check_bounded(size, 1, MAX_TERMS)
    return _told_rows(space, size)


def is_form_row(space, value):
    """Whether a value is a tuple of the first entries of some row of the level of a space."""
    check_space(space)
    return _is_begun(value) and len(value) > 0 and is_mix(_told_rows(space, len(value)), value)


def row_with(space, begun, size):
    """The first entries, so many, of the row whose first entries, as many as the bound, are told."""
    check_space(space)
    bound = form_bound(space.level)
    if not _is_begun(begun) or len(begun) != bound:
        raise InvalidRow("the row is begun by as many ratios as the bound of the level")
    check_bounded(size, 1, MAX_TERMS)
    row = _row_from(_told_rows(space, max(size, bound)), begun, max(size, bound))
    for place, entry in enumerate(begun):
        if row[place] != entry:
            raise Refused(("none", place + 1))
    return row[:size]


def _row_from(rows, begun, size):
    """The mix of the rows of an echelon that has, at the places of their first ones, what is begun."""
    mixed = [Ratio(0)] * size
    for lead, row in zip(lead_places(rows), rows):
        mixed = [entry.plus(part.times(begun[lead])) for entry, part in zip(mixed, row)]
    return tuple(mixed)


def first_difference(one, other):
    """The least n from 1 on at which two tuples of ratios differ, or None."""
    for told in (one, other):
        if not _is_begun(told) or not told:
            raise InvalidRow("a row is a tuple of 1 to 60 ratios")
    if len(one) != len(other):
        raise InvalidOperation("both rows have equally many entries")
    for place, entry in enumerate(one):
        if entry != other[place]:
            return place + 1
    return None
