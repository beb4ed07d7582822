"""The tables of the lots of a prime: how many lots within each one are alike to each other one."""

from levelroads.base.numbers import check_bounded, divisor_sum
from levelroads.base.ratios import Ratio
from levelroads.base.tables import polynomial_of, table_of
from levelroads.errors import InvalidLot
from levelroads.quat.bases import order_facts
from levelroads.quat.classes import pairings_between, rows_of_classes, shapes_of_full
from levelroads.quat.lattices import count_of_norm
from levelroads.quat.lots import check_lot, told_shapes
from levelroads.quat.quaternions import check_prime

MAX_TABLED = 60


def _checked_shapes(lots):
    shapes = told_shapes(lots)
    if shapes is None:
        raise InvalidLot("the lots are a full list of a prime number")
    return shapes


def _check_tabled(number):
    check_bounded(number, 1, MAX_TABLED)


def _table(prime, shapes, number):
    """The table of a number, by the shapes of a full list of a prime."""
    facts = order_facts(prime)
    rows = [[0] * len(shapes) for _ in shapes]
    for r, one in enumerate(shapes):
        for s, other in enumerate(shapes[:r]):
            # The elements between two lots are those between the other one and the first one, conjugated.
            many = count_of_norm(pairings_between(facts, one, other), number)
            rows[r][s] = many // other[1]
            rows[s][r] = many // one[1]
    # What is left of the lots within each one are those alike to it itself.
    total = divisor_sum(number, without=prime)
    for r, row in enumerate(rows):
        row[r] = total - sum(row)
    return tuple([tuple(row) for row in rows])


def lot_weights(lots):
    """The tuple of the numbers of the units of the lots of a full list."""
    return tuple([shape[1] for shape in _checked_shapes(lots)])


def lots_mass(lots):
    """The sum of 1 / (number of units) over the lots of a full list."""
    mass = Ratio(0)
    for shape in _checked_shapes(lots):
        mass = mass.plus(Ratio(1, shape[1]))
    return mass


def lot_table(lots, number):
    """The table of a number for a full list."""
    shapes = _checked_shapes(lots)
    _check_tabled(number)
    return _table(lots[0].prime, shapes, number)


def count_within(lot, number):
    """The number of the lots within a lot whose norm is a number times its own."""
    check_lot(lot)
    _check_tabled(number)
    return divisor_sum(number, without=lot.prime)


def lot_polynomial(prime, number):
    """The polynomial of the table of a number for any full list of a prime."""
    check_prime(prime)
    _check_tabled(number)
    facts = order_facts(prime)
    table = _table(prime, shapes_of_full(facts, prime, rows_of_classes(facts, prime)), number)
    return tuple([entry.top for entry in polynomial_of(table_of(table))])


def are_led(lots, one, other, number):
    """Whether a lot within one of a full list, of its norm times a number, is alike to another one of the list."""
    shapes = _checked_shapes(lots)
    check_bounded(one, 0, len(shapes) - 1)
    check_bounded(other, 0, len(shapes) - 1)
    _check_tabled(number)
    pairings = pairings_between(order_facts(lots[0].prime), shapes[one], shapes[other])
    return count_of_norm(pairings, number) > 0
