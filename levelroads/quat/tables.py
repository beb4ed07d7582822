"""The tables of the lots of a prime: how many lots within each one are alike to each other one."""

from levelroads.base.numbers import check_bounded, divisor_sum
from levelroads.base.ratios import Ratio
from levelroads.base.tables import polynomial_of, table_of
from levelroads.errors import InvalidLot
from levelroads.quat.lattices import all_of_norm
from levelroads.quat.lots import check_lot, forms_of_classes, forms_of_lots
from levelroads.quat.quaternions import check_prime

MAX_TABLED = 60


def _checked_forms(lots):
    forms = forms_of_lots(lots)
    if forms is None:
        raise InvalidLot("the lots are a full list of a prime number")
    return forms


def _check_tabled(number):
    check_bounded(number, 1, MAX_TABLED)


def _weights(forms):
    return [len(all_of_norm(row[-1], 1)) for row in forms]


def _table(forms, number):
    """The table of a number, by the forms of a full list."""
    counts = [[len(all_of_norm(pairings, number)) for pairings in row] for row in forms]
    weights = _weights(forms)
    table = []
    for r in range(len(forms)):
        # The elements between two lots are those between the other one and the first one, conjugated.
        table.append(tuple([counts[max(r, s)][min(r, s)] // weight for s, weight in enumerate(weights)]))
    return tuple(table)


def lot_weights(lots):
    """The tuple of the numbers of the units of the lots of a full list."""
    return tuple(_weights(_checked_forms(lots)))


def lots_mass(lots):
    """The sum of 1 / (number of units) over the lots of a full list."""
    mass = Ratio(0)
    for weight in _weights(_checked_forms(lots)):
        mass = mass.plus(Ratio(1, weight))
    return mass


def lot_table(lots, number):
    """The table of a number for a full list."""
    forms = _checked_forms(lots)
    _check_tabled(number)
    return _table(forms, number)


def count_within(lot, number):
    """The number of the lots within a lot whose norm is a number times its own."""
    check_lot(lot)
    _check_tabled(number)
    return divisor_sum(number, without=lot.prime)


def lot_polynomial(prime, number):
    """The polynomial of the table of a number for any full list of a prime."""
    check_prime(prime)
    _check_tabled(number)
    table = _table(forms_of_classes(prime), number)
    return tuple([entry.top for entry in polynomial_of(table_of(table))])


def are_led(lots, one, other, number):
    """Whether a lot within one of a full list, of its norm times a number, is alike to another one of the list."""
    forms = _checked_forms(lots)
    check_bounded(one, 0, len(forms) - 1)
    check_bounded(other, 0, len(forms) - 1)
    _check_tabled(number)
    return len(all_of_norm(forms[max(one, other)][min(one, other)], number)) > 0
