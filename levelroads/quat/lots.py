"""Lots: the left ideals of the order of a prime, and the classes into which they fall."""

from math import isqrt

from levelroads.base.numbers import check_bounded, is_prime, is_whole, prime_powers
from levelroads.errors import InvalidCount, InvalidElement, InvalidLot, InvalidOperation, TooMany
from levelroads.quat.lattices import all_of_norm, combined, dot, is_within, short_rows, triangle_of
from levelroads.quat.quaternions import Order, check_element, check_prime, is_element
from levelroads.rim.groups import genus

MAX_NORM = 10000
MAX_SIDES = 13
MAX_LISTED = 60

_MAX_TOLD = 64
_MAX_BEHIND = 8
_MAX_TIMES = 100
_WHOLE = ((1, 0, 0, 0), (0, 1, 0, 0), (0, 0, 1, 0), (0, 0, 0, 1))


def check_lot(lot):
    """Refuse what is no lot."""
    if not isinstance(lot, Lot):
        raise InvalidLot("a lot is an object of Lot")


def _check_both(one, other):
    check_lot(one)
    check_lot(other)
    if one.prime != other.prime:
        raise InvalidOperation("both lots have the same prime")


def _check_told(told, most):
    if not isinstance(told, tuple) or not 1 <= len(told) <= most or not all([is_element(one) for one in told]):
        raise InvalidElement("what is told is a tuple of some tuples of four integers")


def _check_size(size):
    if size > MAX_NORM:
        raise TooMany(MAX_NORM)


def least_rows(prime, told):
    """The least rows of all sums of multiples of some elements."""
    check_prime(prime)
    _check_told(told, _MAX_TOLD)
    rows = triangle_of(told, 4)
    if rows is None:
        raise InvalidOperation("fewer than four rows would do")
    return rows


# Below, rows are the least rows of a lot, and the order is that of its prime.


def _size_of(rows):
    """The norm of a lot: the square of it is the product of the diagonals."""
    product = 1
    for place, row in enumerate(rows):
        product = product * row[place]
    return isqrt(product)


def _before(order, y):
    """The products of the basis of an order and an element."""
    return [combined(y, row) for row in order.products]


def _behind(order, x):
    """The products of an element and the basis of an order."""
    products = order.products
    return [combined(x, column) for column in zip(*products)]


def _back(order, x):
    """The conjugate of an element."""
    trace = dot(x, combined(order.one, order.pairings))
    return [trace * entry - less for entry, less in zip(order.one, x)]


def _is_least(rows):
    """Whether four elements are the least rows of what they tell."""
    for place, row in enumerate(rows):
        if any(row[:place]) or row[place] < 1 or not all([0 <= above[place] < row[place] for above in rows[:place]]):
            return False
    return True


def _are_rows(order, value):
    """Whether a value is the least rows of a lot."""
    if not isinstance(value, tuple) or len(value) != 4 or not all([is_element(row) for row in value]):
        return False
    return _is_least(value) and all([is_within(value, led) for row in value for led in _before(order, row)])


def _rows_between(order, one, other):
    """The least rows of the lattice between two lots."""
    rows = []
    for x in one:
        led = _behind(order, _back(order, x))
        rows.extend([combined(y, led) for y in other])
    return triangle_of(rows, 4)


def _short_between(order, one, other):
    """Short rows of the lattice between two lots, and their pairings divided by the norms of both lots."""
    rows, table = short_rows(_rows_between(order, one, other), order.pairings)
    size = _size_of(one) * _size_of(other)
    return rows, [[entry // size for entry in row] for row in table]


def _papers(order, one, other):
    """All papers of two lots."""
    rows, pairings = _short_between(order, one, other)
    return [tuple(combined(many, rows)) for many in all_of_norm(pairings, 1)]


def _are_alike(order, one, other):
    return len(all_of_norm(_short_between(order, one, other)[1], 1)) > 0


class Lot:
    """A lot of a prime. It never changes."""

    def __init__(self, prime, rows):
        self._order = Order(prime)
        if not _are_rows(self._order, rows):
            raise InvalidLot("the rows are the least rows of a lot")
        self._size = _size_of(rows)
        _check_size(self._size)
        self._rows = rows

    @property
    def prime(self):
        """The prime."""
        return self._order.prime

    @property
    def rows(self):
        """The least rows."""
        return self._rows

    @property
    def size(self):
        """The norm."""
        return self._size

    def behind(self, element):
        """The lot of all products of an element of this one and an element."""
        check_element(element)
        if not any(element):
            raise InvalidOperation("no lot is behind zero")
        led = _before(self._order, element)
        return self._told([combined(row, led) for row in self._rows])

    def multiplied(self, many):
        """The lot with all elements multiplied by an integer."""
        check_bounded(many, 1, _MAX_TIMES)
        return self._told([[many * entry for entry in row] for row in self._rows])

    def joined(self, other):
        """The least lot that has all elements of both."""
        _check_both(self, other)
        return self._told(self._rows + other.rows)

    def shared(self, other):
        """The lot of all elements that are in both."""
        _check_both(self, other)
        zeros = (0, 0, 0, 0)
        rows = triangle_of([row + row for row in self._rows] + [row + zeros for row in other.rows], 8)
        return self._told([row[4:] for row in rows[4:]])

    def _told(self, rows):
        """The lot whose elements are the sums of multiples of some rows."""
        return _lot_of(self.prime, rows)

    def __contains__(self, x):
        return _is_whole_element(x) and is_within(self._rows, x)

    def __len__(self):
        return len(_papers(self._order, self._rows, self._rows))

    def __eq__(self, other):
        return isinstance(other, Lot) and self.prime == other.prime and self._rows == other.rows

    def __str__(self):
        return f"{_text_of(self._rows)} over {self.prime}"


def _text_of(rows):
    return "/".join([" ".join([str(entry) for entry in row]) for row in rows])


def _is_whole_element(value):
    """Whether a value is an element with integers of any length."""
    return isinstance(value, tuple) and len(value) == 4 and all([is_whole(entry) for entry in value])


def _lot_of(prime, rows):
    """The lot whose elements are the sums of multiples of some rows; its norm may be too great."""
    least = triangle_of(rows, 4)
    _check_size(_size_of(least))
    return Lot(prime, least)


def whole_lot(prime):
    """The lot of all elements of the order of a prime."""
    return Lot(prime, _WHOLE)


def lot_of(prime, told):
    """The least lot that has some elements."""
    check_prime(prime)
    _check_told(told, _MAX_BEHIND)
    if not any([any(one) for one in told]):
        raise InvalidOperation("one of those that are told is not zero")
    order = Order(prime)
    return _lot_of(prime, [led for one in told for led in _before(order, one)])


def rows_between(one, other):
    """The least rows of the lattice between two lots."""
    _check_both(one, other)
    return _rows_between(Order(one.prime), one.rows, other.rows)


def count_between(one, other, number):
    """How many elements of the lattice between two lots have the norm that is a number times both norms."""
    _check_both(one, other)
    check_bounded(number, 1, MAX_LISTED)
    return len(all_of_norm(_short_between(Order(one.prime), one.rows, other.rows)[1], number))


def are_alike_lots(one, other):
    """Whether two lots are alike."""
    _check_both(one, other)
    return _are_alike(Order(one.prime), one.rows, other.rows)


def lot_paper(one, other):
    """A paper of two lots, or None if they are not alike."""
    _check_both(one, other)
    papers = _papers(Order(one.prime), one.rows, other.rows)
    return papers[0] if papers else None


def is_lot_paper(one, other, value):
    """Whether a value is a paper of two lots."""
    _check_both(one, other)
    if not _is_whole_element(value):
        return False
    order = Order(one.prime)
    if dot(value, combined(value, order.pairings)) != 2 * one.size * other.size:
        return False
    return is_within(_rows_between(order, one.rows, other.rows), value)


def _rows_within(order, rows, prime):
    """The ascending list of the rows of all lots within a lot whose norm is a prime times its own."""
    size = _size_of(rows)
    led_rows = [combined(row, order.pairings) for row in rows]
    pairings = [[dot(row, led) // size for led in led_rows] for row in rows]
    multiples = [[prime * entry for entry in row] for row in rows]
    most = 1 if prime == order.prime else prime + 1
    found = {}
    # Each of these lots is told by any of its elements that is no multiple of the prime, and has such with 0 as the
    # multiple of the first row; these are just the ones whose norm has the prime once more.
    for many in _points(prime):
        if len(found) < most and dot(many, combined(many, pairings)) // 2 % prime == 0:
            products = _before(order, combined(many, rows))
            found[triangle_of(products + multiples, 4)] = True
    return sorted(found)


def _points(prime):
    """One of each line of multiples, modulo a prime, of the rows of four integers that begin with 0."""
    points = [(0, 1, y, z) for y in range(prime) for z in range(prime)]
    return points + [(0, 0, 1, z) for z in range(prime)] + [(0, 0, 0, 1)]


def neighbours(lot, number):
    """The ascending tuple of all neighbours of a lot by a prime."""
    check_lot(lot)
    if not is_prime(number) or number > MAX_SIDES or number == lot.prime:
        raise InvalidCount(number)
    return tuple([Lot(lot.prime, rows) for rows in _rows_within(Order(lot.prime), lot.rows, number)])


def lots(prime):
    """A tuple of lots of a prime with one lot of each class."""
    return tuple([Lot(prime, rows) for rows in _rows_of_classes(Order(prime))])


def _rows_of_classes(order):
    """The list of the rows of one lot of each class."""
    most = genus(order.prime) + 1
    found = [_WHOLE]
    at = 0
    while len(found) < most:
        # The lots of the prime 2 are one class alone: there no neighbours are asked.
        near = _rows_within(order, found[at], 2)
        for rows in near:
            if not _is_met(order, found, rows):
                found.append(rows)
        at = at + 1
    return found


def _is_met(order, found, rows):
    for one in found:
        if _are_alike(order, one, rows):
            return True
    return False


def are_lots(prime, value):
    """Whether a value is a tuple of lots of a prime with one lot of each class."""
    check_prime(prime)
    return forms_of_lots(value) is not None and value[0].prime == prime


# The forms of a full list are, at r and s with s at most r, the pairings, divided by both norms, of short rows of the
# lattice between its lots r and s.


def forms_of_classes(prime):
    """The forms of some full list of a prime."""
    order = Order(prime)
    found = _rows_of_classes(order)
    forms = []
    for place, rows in enumerate(found):
        forms.append([_short_between(order, rows, other)[1] for other in found[:place + 1]])
    return forms


def forms_of_lots(value):
    """The forms of a full list of a prime, or None for all other values."""
    if not isinstance(value, tuple) or not value or not all([isinstance(lot, Lot) for lot in value]):
        return None
    prime = value[0].prime
    if len(value) != genus(prime) + 1 or not all([lot.prime == prime for lot in value]):
        return None
    order = Order(prime)
    forms = []
    for place, lot in enumerate(value):
        found = [_short_between(order, lot.rows, other.rows)[1] for other in value[:place]]
        if any([len(all_of_norm(pairings, 1)) > 0 for pairings in found]):
            return None
        found.append(_short_between(order, lot.rows, lot.rows)[1])
        forms.append(found)
    return forms


def lots_of_norm(prime, number):
    """The ascending tuple of all lots of a norm."""
    check_prime(prime)
    check_bounded(number, 1, MAX_LISTED)
    order = Order(prime)
    layer = [_WHOLE]
    for factor, times in prime_powers(number).items():
        for _ in range(times):
            found = {}
            for rows in layer:
                for within in _rows_within(order, rows, factor):
                    found[within] = True
            layer = sorted(found)
    return tuple([Lot(prime, rows) for rows in layer])


def class_of(told, lot):
    """The index, in a tuple of lots with one of each class, of the one that is alike with a lot."""
    if forms_of_lots(told) is None:
        raise InvalidLot("the lots are a tuple of one lot of each class")
    check_lot(lot)
    if lot.prime != told[0].prime:
        raise InvalidOperation("all lots have the same prime")
    order = Order(lot.prime)
    return [_are_alike(order, one.rows, lot.rows) for one in told].index(True)
