"""Lots: the left ideals of the order of a prime, and the classes into which they fall."""

from levelroads.base.numbers import check_bounded, is_prime, is_whole, prime_powers
from levelroads.errors import InvalidCount, InvalidElement, InvalidLot, InvalidOperation, TooMany
from levelroads.quat.bases import order_facts
from levelroads.quat.classes import WHOLE, are_rows, lattice_rows, papers_of, products_before, rows_of_classes
from levelroads.quat.classes import rows_within, shape_of, shapes_of_full, short_between, size_of, twice_norm
from levelroads.quat.lattices import combined, count_of_norm, is_within, triangle_of
from levelroads.quat.quaternions import check_element, check_prime, is_element

MAX_NORM = 10000
MAX_SIDES = 13
MAX_LISTED = 60

_MAX_TOLD = 64
_MAX_BEHIND = 8
_MAX_TIMES = 100


def check_lot(lot):
    """Refuse what is no lot."""
    if not isinstance(lot, Lot):
        raise InvalidLot("a lot is an object of Lot")


def _check_both(one, other):
    check_lot(one)
    check_lot(other)
    if one.prime != other.prime:
        raise InvalidOperation("both lots have the same prime")


def _check_told(told, most):
    if not isinstance(told, tuple) or not 1 <= len(told) <= most or not all([is_element(one) for one in told]):
        raise InvalidElement("what is told is a tuple of some tuples of four integers")


def _check_size(size):
    if size > MAX_NORM:
        raise TooMany(MAX_NORM)


def least_rows(prime, told):
    """The least rows of all sums of multiples of some elements."""
    check_prime(prime)
    _check_told(told, _MAX_TOLD)
    rows = triangle_of(told, 4)
    if rows is None:
        raise InvalidOperation("fewer than four rows would do")
    return rows


def _is_lot_of(prime, value):
    """Whether a value is the least rows of a lot of a prime."""
    if not isinstance(value, tuple) or len(value) != 4 or not all([is_element(row) for row in value]):
        return False
    return value == WHOLE or are_rows(order_facts(prime), value)


class Lot:
    """A lot of a prime. It never changes."""

    def __init__(self, prime, rows):
        check_prime(prime)
        if not _is_lot_of(prime, rows):
            raise InvalidLot("the rows are the least rows of a lot")
        self._prime = prime
        self._rows = rows
        self._size = size_of(rows)
        _check_size(self._size)

    @property
    def prime(self):
        """The prime."""
        return self._prime

    @property
    def rows(self):
        """The least rows."""
        return self._rows

    @property
    def size(self):
        """The norm."""
        return self._size

    def behind(self, element):
        """The lot of all products of an element of this one and an element."""
        check_element(element)
        if not any(element):
            raise InvalidOperation("no lot is behind zero")
        led = products_before(order_facts(self._prime), element)
        return self._told([combined(row, led) for row in self._rows])

    def multiplied(self, many):
        """The lot with all elements multiplied by an integer."""
        check_bounded(many, 1, _MAX_TIMES)
        return self._told([[many * entry for entry in row] for row in self._rows])

    def joined(self, other):
        """The least lot that has all elements of both."""
        _check_both(self, other)
        return self._told(self._rows + other.rows)

    def shared(self, other):
        """The lot of all elements that are in both."""
        _check_both(self, other)
        zeros = (0, 0, 0, 0)
        rows = triangle_of([row + row for row in self._rows] + [row + zeros for row in other.rows], 8)
        return self._told([row[4:] for row in rows[4:]])

    def _told(self, rows):
        """The lot whose elements are the sums of multiples of some rows."""
        return _lot_of(self._prime, rows)

    def __contains__(self, x):
        return _is_whole_element(x) and is_within(self._rows, x)

    def __len__(self):
        return len(papers_of(order_facts(self._prime), self._rows, self._rows))

    def __eq__(self, other):
        return isinstance(other, Lot) and self._prime == other._prime and self._rows == other._rows

    def __str__(self):
        return f"{_text_of(self._rows)} over {self._prime}"


def _text_of(rows):
    return "/".join([" ".join([str(entry) for entry in row]) for row in rows])


def _is_whole_element(value):
    """Whether a value is an element with integers of any length."""
    return isinstance(value, tuple) and len(value) == 4 and all([is_whole(entry) for entry in value])


def _lot_of(prime, rows):
    """The lot whose elements are the sums of multiples of some rows; its norm may be too great."""
    return _lot_with(prime, triangle_of(rows, 4))


def _lot_with(prime, rows):
    """The lot with what surely are the least rows of one; its norm may be too great."""
    size = size_of(rows)
    _check_size(size)
    # To ask again whether they are would take longer than most of what makes lots.
    lot = Lot(2, WHOLE)
    lot._prime, lot._rows, lot._size = prime, rows, size
    return lot


def _lots_with(prime, found):
    return tuple([_lot_with(prime, rows) for rows in found])


def whole_lot(prime):
    """The lot of all elements of the order of a prime."""
    return Lot(prime, WHOLE)


def lot_of(prime, told):
    """The least lot that has some elements."""
    check_prime(prime)
    _check_told(told, _MAX_BEHIND)
    if not any([any(one) for one in told]):
        raise InvalidOperation("one of those that are told is not zero")
    facts = order_facts(prime)
    return _lot_of(prime, [led for one in told for led in products_before(facts, one)])


def rows_between(one, other):
    """The least rows of the lattice between two lots."""
    _check_both(one, other)
    return lattice_rows(order_facts(one.prime), one.rows, other.rows)


def count_between(one, other, number):
    """How many elements of the lattice between two lots have the norm that is a number times both norms."""
    _check_both(one, other)
    check_bounded(number, 1, MAX_LISTED)
    return count_of_norm(short_between(order_facts(one.prime), one.rows, other.rows)[1], number)


def are_alike_lots(one, other):
    """Whether two lots are alike."""
    _check_both(one, other)
    return count_of_norm(short_between(order_facts(one.prime), one.rows, other.rows)[1], 1) > 0


def lot_paper(one, other):
    """A paper of two lots, or None if they are not alike."""
    _check_both(one, other)
    papers = papers_of(order_facts(one.prime), one.rows, other.rows)
    return papers[0] if papers else None


def is_lot_paper(one, other, value):
    """Whether a value is a paper of two lots."""
    _check_both(one, other)
    facts = order_facts(one.prime)
    if not _is_whole_element(value) or twice_norm(facts, value) != 2 * one.size * other.size:
        return False
    return is_within(lattice_rows(facts, one.rows, other.rows), value)


def neighbours(lot, number):
    """The ascending tuple of all neighbours of a lot by a prime."""
    check_lot(lot)
    if not is_prime(number) or number > MAX_SIDES or number == lot.prime:
        raise InvalidCount(number)
    return _lots_with(lot.prime, rows_within(order_facts(lot.prime), lot.rows, number, number + 1))


def lots(prime):
    """A tuple of lots of a prime with one lot of each class."""
    check_prime(prime)
    return _lots_with(prime, rows_of_classes(order_facts(prime), prime))


def are_lots(prime, value):
    """Whether a value is a tuple of lots of a prime with one lot of each class."""
    check_prime(prime)
    return told_shapes(value) is not None and value[0].prime == prime


def told_shapes(value):
    """The shapes of the lots of a full list of a prime, or None for all other values."""
    if not isinstance(value, tuple) or not value or not all([isinstance(lot, Lot) for lot in value]):
        return None
    prime = value[0].prime
    if not all([lot.prime == prime for lot in value]):
        return None
    return shapes_of_full(order_facts(prime), prime, [lot.rows for lot in value])


def lots_of_norm(prime, number):
    """The ascending tuple of all lots of a norm."""
    check_prime(prime)
    check_bounded(number, 1, MAX_LISTED)
    facts = order_facts(prime)
    layer = [WHOLE]
    for factor, times in prime_powers(number).items():
        most = 1 if factor == prime else factor + 1
        for _ in range(times):
            found = {}
            for rows in layer:
                for within in rows_within(facts, rows, factor, most):
                    found[within] = True
            layer = sorted(found)
    return _lots_with(prime, layer)


def class_of(told, lot):
    """The index, in a tuple of lots with one of each class, of the one that is alike with a lot."""
    shapes = told_shapes(told)
    if shapes is None:
        raise InvalidLot("the lots are a tuple of one lot of each class")
    check_lot(lot)
    if lot.prime != told[0].prime:
        raise InvalidOperation("all lots have the same prime")
    least = shape_of(order_facts(lot.prime), lot.rows)[0]
    return [shape[0] for shape in shapes].index(least)
